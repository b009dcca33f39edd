/- Of the proof of BearingTurned: Ev11 Ev12 Ev13 Ev14 Ev15 Ev16 Ev17 -/
import Derived.RangeFuncNested
import Derived.Test.YtlpjchhijenlbaaGreatA06
set_option linter.unusedSectionVars false
set_option linter.unusedVariables false
set_option linter.unusedSimpArgs false
section
section
namespace Go
namespace Ev
abbrev Iv:=Fn→List Value→H→Option (Value × H)
structure Ck where
 go:T Value→Oper→Bool
 skip:Oper→Bool
section
variable (P:Program) (inv:Iv)
def Gp (t:T Value) (h:H) (f:Operand) (xs:List Operand):Option (Value × H):=
 match aG t f with
 | some v=>match opts (aG t) xs with
  | some args=>match callee v args with
   | some (g,args)=>inv g args h
   | none=>none
  | none=>none
 | none=>none
def lT (t:T Value) (h:H) (o:Op):Option (Value × H):=
 match qh o with
 | true=>match jQ P (aG t) o with
  | some v=>some (v,h)
  | none=>none
 | false=>match o with
  | .call c=>match c.callee with
   | .value f=>Gp inv t h f c.args.toList
   | _=>tZ P (aG t) o h
  | _=>tZ P (aG t) o h
def jm (ck:Ck) (n:Nat) (all:List Oper):List Oper→T Value→H→Option (T Value × H)
 | [],t,h=>some (t,h)
 | o::l,t,h=>match jH all t o with
  | some true=>match ck.go t o with
   | true=>match lT P inv t h o.op with
    | some (v,h')=>match jl t n o.dst v with
     | some t'=>jm ck n all l t' h'
     | none=>none
    | none=>none
   | false=>none
  | some false=>match ck.skip o with
   | true=>match jl t n o.dst (.tuple #[]) with
    | some t'=>jm ck n all l t' h
    | none=>none
   | false=>none
  | none=>none
def only (t:T Value):List Nat→T Value
 | []=>.nil
 | d::l=>match Nat.blt d top with
  | true=>T.put T.deep (only t l) d (t.get d)
  | false=>only t l
def UO (r:Rec):Bool:=r.h1.log.all fun b=>match Nat.blt b top with
 | true=>match r.h0.get b with
  | some _=>true
  | none=>match Nat.ble r.h0.next b with
   | true=>Nat.blt b r.h1.next
   | false=>false
 | false=>false
def AQ (ops:List Oper):Bool:=ops.any fun o=>o.after.toList.any fun e=>!Region.binds .any e
def jY (ck:Ck) (n:Nat) (all:List Oper) (t0:T Ob):List Oper→Nat→T Value→Nat→List Rec→Option (T Value × Nat × List Rec)
 | [],_,t,nx,rs=>some (t,nx,rs)
 | o::l,i,t,nx,rs=>match jH all (only t (iP all o)) o with
  | some true=>match ck.go (only t (iP all o)) o with
   | true=>match qh o.op with
    | true=>match jQ P (aG (only t (iP all o))) o.op with
     | some v=>match jl t n o.dst v with
      | some t'=>jY ck n all t0 l (i+1) t' nx rs
      | none=>none
     | none=>none
    | false=>match lT P inv (only t (iP all o)) ⟨narrow (only t (iP all o)) o.op (behind all i t0 rs),nx,[]⟩ o.op with
     | some (v,h1)=>match jl t n o.dst v with
      | some t'=>jY ck n all t0 l (i+1) t' h1.next (⟨i,⟨narrow (only t (iP all o)) o.op (behind all i t0 rs),nx,[]⟩,h1⟩::rs)
      | none=>none
     | none=>none
   | false=>none
  | some false=>match ck.skip o with
   | true=>match jl t n o.dst (.tuple #[]) with
    | some t'=>jY ck n all t0 l (i+1) t' nx rs
    | none=>none
   | false=>none
  | none=>none
def yZ (ck:Ck) (n:Nat) (ops:List Oper) (t:T Value) (h:H):Option (T Value × H):=
 match Gf ops,(match P.follows .mixedOrders with | true=>true | false=>!AQ ops) with
 | true,true=>match jY P inv ck n ops h.t ops 0 t h.next [] with
  | some (t',nx,rs)=>match xB ops rs,rs.all UO with
   | true,true=>some (t',⟨layAll h.t rs,nx,gu rs++h.log⟩)
   | _,_=>none
  | none=>none
 | _,_=>none
def Qb (f:St→Option (Ex × St)):Nat→St→Option (Ex × St)
 | 0,_=>none
 | k+1,s=>match f s with
  | some (.normal,s')=>Qb f k s'
  | some x=>some x
  | none=>none
def H8 (x:Option (Ex × St)) (f:St→Option (Ex × St)):Option (Ex × St):=
 match x with
 | some (.normal,s)=>f s
 | x=>x
def zh (id:Nat) (x:Option (Ex × St)):Option (Ex × St):=
 match x with
 | some (.exit i,s)=>match Nat.beq i id with
  | true=>some (.normal,s)
  | false=>some (.exit i,s)
 | x=>x
def xJ (s:St) (f:Operand) (l:Nat) (marks:List Nat) (h:H):Option (Ex × St):=
 match aG s.t f with
 | none=>none
 | some v=>match callee v [.func (.yield l) #[] #[]] with
  | some (.func g,args)=>match inv (.func g) args h with
   | none=>none
   | some (_,h1)=>match h1.get l,Nat.blt l top with
    | some (.loop st j f' t' n' ps' as' b' d'),true=>match st with
     | .busy=>none
     | _=>match JD j with
      | some e=>some (e,⟨s.t,h1.put l (.loop .exhausted j f' t' n' ps' as' b' d'),marks⟩)
      | none=>none
    | _,_=>none
  | _=>none
def RN:Ck:=⟨fun _ _=>true,fun _=>true⟩
def Jd (n:Nat) (ops:List Oper) (draw:Bool) (s:St):Option (Ex × St):=
 match draw with
 | false=>match jm P inv RN n ops ops s.t s.h with
  | some (t,h)=>some (.normal,⟨t,h,s.marks⟩)
  | none=>none
 | true=>match yZ P inv RN n ops s.t s.h with
  | some (t,h)=>some (.normal,⟨t,h,s.marks⟩)
  | none=>none
def O6 (fn:FuncId) (n:Nat) (rd:Option Nat) (f:Operand) (ps:Array Tmp) (as b:Code) (s:St):Option (Ex × St):=
 match rd with
 | none=>match s.h.new (.calls true) with
  | some (r,h)=>match h.new (.loop .ready none fn s.t n ps as b r) with
   | some (l,h)=>xJ inv s f l (r::s.marks) h
   | none=>none
  | none=>none
 | some l=>match s.h.get l with
  | some (.loop _ _ _ _ _ _ _ _ d)=>match s.h.new (.loop .ready none fn s.t n ps as b d) with
   | some (l,h)=>xJ inv s f l s.marks h
   | none=>none
  | _=>none
def fQ (fn:FuncId) (n:Nat) (rd:Option Nat):Code→St→Option (Ex × St)
 | .skip,s | .label _,s=>some (.normal,s)
 | .region _ ops draw,s=>Jd P inv n ops.toList draw s
 | .seq a b,s=>H8 (fQ fn n rd a s) (fQ fn n rd b)
 | .cond c a b,s=>match aG s.t c with
  | some (.bool true)=>fQ fn n rd a s
  | some (.bool false)=>fQ fn n rd b s
  | _=>none
 | .block id b,s=>zh id (fQ fn n rd b s)
 | .loop b,s=>Qb (fQ fn n rd b) 100000 s
 | .scope b,s=>fQ fn n rd b s
 | .rangeFunc f ps as b,s=>O6 inv fn n rd f ps as b s
 | .exit id,s=>some (.exit id,s)
 | .ret,s=>some (.ret,s)
 | _,_=>none
def mO (fn:Func) (x:Ex × St):Option (Value × H):=
 match x.1 with
 | .exit _=>none
 | _=>match tJ x.2.marks x.2.h with
  | some h=>match oD P x.2.t h fn.results.toList with
   | some v=>some (v,h)
   | none=>none
  | none=>none
def VE (l:Nat) (x:Ex × St):Option (Value × H):=
 match x.2.h.get l,Nat.blt l top,x.2.marks with
 | some (.loop _ _ f2 t2 n2 ps2 as2 b2 d2),true,[]=>match x.1 with
  | .normal=>some (.bool true,x.2.h.put l (.loop .ready none f2 t2 n2 ps2 as2 b2 d2))
  | .ret=>some (.bool false,x.2.h.put l (.loop .done (some .ret) f2 t2 n2 ps2 as2 b2 d2))
  | .exit id=>some (.bool false,x.2.h.put l (.loop .done (some (.exit id)) f2 t2 n2 ps2 as2 b2 d2))
 | _,_,_=>none
def YQ (f:FuncId) (n:Nat) (l:Nat) (b:Code) (x:Ex × St):Option (Value × H):=
 match x.1,x.2.h.get l,Nat.blt l top,x.2.marks with
 | .normal,some (.loop .ready j f1 t1 n1 ps1 as1 b1 d1),true,[]=>
  match fQ P inv f n (some l) b ⟨x.2.t,x.2.h.put l (.loop .busy j f1 t1 n1 ps1 as1 b1 d1),[]⟩ with
  | some x=>VE l x
  | none=>none
 | _,_,_,_=>none
def Vg (f:FuncId) (args:List Value) (h:H):Option (Value × H):=
 match P.funcs[f]? with
 | some fn=>match fn.body,qI 0 args .nil,fn.name == "runtime.NumGoroutine" with
  | some c,some t,false=>match fQ P inv f (args.length+(fn.ntmps - args.length)) none c ⟨t,h,[]⟩ with
   | some x=>mO P fn x
   | none=>none
  | _,_,_=>none
 | none=>none
def nX (l:Nat) (args:List Value) (h:H):Option (Value × H):=
 match h.get l with
 | some (.loop _ _ f t n ps as b _)=>match uJ ps.toList args n t with
  | some t'=>match fQ P inv f n (some l) as ⟨t',h,[]⟩ with
   | some x=>YQ P inv f n l b x
   | none=>none
  | none=>none
 | _=>none
end
def qO (P:Program) (hk:FuncId→List Value→H→Option (Option (Value × H))):Nat→Iv
 | 0,_,_,_=>none
 | d+1,.func f,args,h=>match hk f args h with
  | some r=>r
  | none=>Vg P (qO P hk d) f args h
 | d+1,.yield l,args,h=>nX P (qO P hk d) l args h
 | _+1,_,_,_=>none
end Ev
end Go
end
end
section
section
namespace Go
namespace Ev
variable {P:Program} {ρ:aY}
def gK (ρ:aY) (a b:Nat):Prop:=∀ x,a≤x→x<b→ρ x = .aT
theorem gK.sub {a b c d:Nat} (h:gK ρ a b) (h1:a≤c) (h2:d≤b):gK ρ c d:=fun x hx hy=>h x (Nat.le_trans h1 hx) (Nat.lt_of_lt_of_le hy h2)
theorem gK.step {ρ':aY} {h h':H} {w w':World} {a b:Nat} (hu:gK ρ a b) (s:Stp ρ h w ρ' h' w') (ha:h'.next≤a):gK ρ' a b:=fun x hx hy=>s.born x (hu x hx hy) (.inr (Nat.le_trans ha hx))
theorem TR.put {n:Nat} {t t':T Value} {a:Act} (h:TR ρ n t a.tmps) {d:Option Tmp} {v v':Value} (e:jl t n d v=some t') (hv:VR ρ v v'):TR ρ n t' (a.put d v').tmps:=by
 cases d with
 | none=>simp only [jl] at e;cases e;exact h
 | some d=>
  simp only [jl] at e
  split at e
  ·rename_i h1 h2
   cases e
   rw [Nat.blt_eq] at h1 h2
   refine ⟨by simp [Act.put,h.size],fun i u hi=>?_⟩
   rw [T.get_put _ _ _ _ _ (aO h2)] at hi
   split at hi
   ·rename_i e0
    cases hi;subst e0
    refine ⟨v',?_,hv⟩
    simp [Act.put,h.size,h1]
   ·rename_i e0
    obtain ⟨u',q1,q2⟩:=h.get i u hi
    refine ⟨u',?_,q2⟩
    simp only [Act.put]
    rw [Array.getElem?_setIfInBounds_ne (Ne.symm e0)]
    exact q1
  ·cases e
theorem put_defers (a:Act) (d:Option Tmp) (v:Value):(a.put d v).defers=a.defers:=by cases d<;>rfl
theorem dh {n:Nat} {t:T Value} {a:Act} (h:TR ρ n t a.tmps):Env ρ (aG t) a.eval:=fun x v e=>by
 cases x with
 | tmp d=>
  obtain ⟨v',h1,h2⟩:=h.get d v e
  show VR ρ v (a.tmps.getD d undef)
  rw [Array.getD_eq_getD_getElem?,h1]
  exact h2
 | const c=>
  simp only [aG] at e
  split at e
  ·rename_i hf;cases e;exact bF hf
  ·cases e
 | global g=>cases e
 | func f=>cases e;exact .func .nil .nil
theorem xY {α:Type} (l:Array α) (k:Nat):nth l.toList k=l[k]?:=by rw [xX];simp
theorem dP {n:Nat} {t:T Value} {a:Act} {ops:Array Oper} {o:Oper} {b:Bool} (h:TR ρ n t a.tmps) (e:jH ops.toList t o=some b):Region.wanted o (yielded ops a.tmps)=b:=by
 unfold jH at e
 unfold Region.wanted
 split at e
 ·rename_i hg;rw [hg];cases e;rfl
 ·rename_i j want hg
  rw [hg]
  simp only
  rw [xY] at e
  split at e
  ·rename_i oj hj
   split at e
   ·rename_i d hd
    split at e
    ·rename_i c hc
     cases e
     obtain ⟨v',h1,h2⟩:=h.get d _ hc
     rw [h2.dQ] at h1
     have:yielded ops a.tmps j=some c:=by unfold yielded;rw [hj];simp [hd,h1]
     rw [this]
     cases c<;>cases want<;>rfl
    ·rename_i c hc
     cases e
     obtain ⟨v',h1,h2⟩:=h.get d _ hc
     obtain ⟨cs',rfl,_⟩:=h2.Iy
     have:yielded ops a.tmps j=none:=by unfold yielded;rw [hj];simp [hd,h1]
     rw [this]
     rfl
    ·cases e
   ·rename_i hd
    cases e
    have:yielded ops a.tmps j=none:=by unfold yielded;rw [hj];simp [hd]
    rw [this];rfl
  ·rename_i hj
   cases e
   have:yielded ops a.tmps j=none:=by unfold yielded;rw [hj];simp
   rw [this];rfl
theorem qw {h h':H} {o:Ob} {b:Nat} (e:h.new o=some (b,h')):h.next≤h'.next:=by
 obtain ⟨_,_,h3,_⟩:=H.jh e;omega
theorem RU {h h':H} {o:Ob} {k:Nat→Value} {v:Value} (e:made (h.new o) k = .one (v,h')):h.next≤h'.next:=by
 obtain ⟨b,e1,_⟩:=lH e;exact qw e1
theorem wo {h h':H} {a:Addr} {vs:List Value} (e:stores h a vs=some h'):h'.next=h.next:=by
 unfold stores at e
 split at e
 ·split at e
  ·cases e;rfl
  ·cases e
 ·split at e
  ·cases e;rfl
  ·cases e
 ·cases e
theorem KC {h h':H} {t:TypeId} {a:Addr} {v:Value} (e:Bh P h t a v=some h'):h'.next=h.next:=by
 unfold Bh at e
 split at e
 ·split at e
  ·exact wo e
  ·cases e
 ·cases e
theorem MZ {h h':H} {t:TypeId} {s x v:Value} (e:vg P h t s x=some (v,h')):h.next≤h'.next:=by
 unfold vg at e
 repeat' split at e
 all_goals first
  | (cases e;done)
  | (cases e;exact Nat.le_refl _)
  | (cases e;exact qw ‹_›)
  | (cases e;refine Nat.le_trans ?_ (qw ‹_›);exact Nat.le_refl _)
  | (cases e;exact Nat.le_of_eq (wo ‹_›).symm)
theorem J3 {h h':H} {t:TypeId} {s x v:Value} (e:A7 P h t s x=some (v,h')):h.next≤h'.next:=by
 unfold A7 at e
 split at e
 ·rename_i hq;cases e;exact MZ hq
 ·unfold PR at e
  repeat' split at e
  all_goals first
   | (cases e;done)
   | (cases e;refine Nat.le_trans ?_ (qw ‹_›);exact Nat.le_refl _)
theorem SY {h h':H} {t:TypeId} {d x v:Value} (e:copyV P h t d x=some (v,h')):h.next≤h'.next:=by
 unfold copyV at e
 split at e
 ·rename_i el db dn dc xb xn xc ht
  split at e
  ·rename_i i hi
   obtain ⟨n,e⟩:∃ n,copyN h i db xb n=some (v,h'):=by
    cases hb:Nat.ble xn dn
    ·refine ⟨dn,?_⟩
     rw [hb] at e;exact e
    ·refine ⟨xn,?_⟩
     rw [hb] at e;exact e
   unfold copyN at e
   split at e
   ·split at e
    ·cases e;exact Nat.le_refl _
    ·split at e
     ·cases e;exact Nat.le_of_eq (wo ‹_›).symm
     ·cases e
   ·cases e
  ·cases e
 ·cases e
theorem Jr {α:Type} {r:Option α} {x:α} (e:R.ofOption r = .one x):r=some x:=by
 cases r<;>cases e
 rfl
theorem FT {ρE:Operand→Option Value} {o:Op} {h h':H} {v:Value} (e:tZ P ρE o h=some (v,h')):h.next≤h'.next:=by
 cases o<;>simp only [tZ] at e<;>try (first | (cases e;done) | (simp only [fE] at e;cases e;done))
 all_goals
  replace e:=gG e
  simp only [fE] at e
  repeat' split at e
 all_goals first
  | (cases e;done)
  | exact RU e
  | (cases e;exact Nat.le_refl _)
  | (obtain ⟨e1,_⟩:=Gg e;exact Nat.le_of_eq (KC e1).symm)
  | (cases e;exact J3 ‹_›)
  | exact SY (Jr e)
  | (rename_i hq _ _ _ _ _ _ _ _ _ _ _ _ _ _ _;exact absurd ‹Op.makeMap _ _=Op.next _ _› (by simp))
  | exact absurd ‹Op.makeMap _ _=Op.next _ _› (by simp)
  | exact absurd ‹Op.makeMap _ _=Op.call _› (by simp)
end Ev
end Go
end
end
section
section
namespace Go
namespace Ev
variable {P:Program} {inv:Iv}
def GR (ρ:aY):Fn→Fn→Prop
 | .func f,.func f'=>f=f'
 | .yield l,.yield l'=>BR ρ l l'
 | _,_=>False
def QC (P:Program) (w:World) (args:List Value) (fr:Frame):Fn→Prop
 | .func f=>∃ fn c,P.funcs[f]? = some fn∧fn.body=some c∧(fn.name == "runtime.NumGoroutine")=false∧fr=Frame.enter P f ⟨args⟩ .normal
 | .yield l=>∃ r,w.heap[l]? = some (.loop r)∧args.length=r.params.size∧fr=Frame.round l r.fn ((r.params.zip ⟨args⟩).foldl (fun tmps (t,a)=>tmps.setIfInBounds t a) r.tmps) r.assign r.body .normal
 | _=>False
def iH (P:Program) (inv:Iv):Prop:=∀ g args h v h',inv g args h=some (v,h')→h.next≤h'.next ∧
 ∀ ρ w g' args',GR ρ g g'→eQ ρ args args'→HR ρ h w→gK ρ h.next h'.next→∃ fr0,QC P w args' fr0 g' ∧
  ∀ c cs,∃ ρ' v' w',Steps P (lone fr0 (c::cs) w) (lone (c.finish v') cs w')∧Stp ρ h w ρ' h' w'∧HR ρ' h' w'∧VR ρ' v v'
def lQ (inv:Iv):Prop:=∀ g args h v h',inv g args h=some (v,h')→h.next≤h'.next
theorem iH.next (h:iH P inv):lQ inv:=fun g args h0 v h' e=>(h g args h0 v h' e).1
def V9 (P:Program) (N:Next) (fr:Frame):Prop:=
 (∃ f args,N = .enter f args∧fr=Frame.enter P f args .normal)∨(∃ l f tmps as b,N = .round l f tmps as b∧fr=Frame.round l f tmps as b .normal)
theorem jg {f:FuncId} {fn:Func} {c:Code} (hf:P.funcs[f]? = some fn) (hname:(fn.name == "runtime.NumGoroutine")=false) (hb:fn.body=some c) (args:Array Value) (w:World) :
  (callFunc f args).run P w = .ok (.enter f args) w:=by
 have hb':fn.body.isNone=false:=by rw [hb];rfl
 unfold callFunc
 simp only [Sem.run_bind,run_program,Result.andThen,hf,hname,Bool.false_eq_true,if_false,hb',Sem.run_pure]
theorem TC (hI:iH P inv) {ρ:aY} {v v' u:Value} {args args':List Value} {g:Fn} {as:List Value} {h h':H} {w:World} (e:callee v args=some (g,as)) (hv:VR ρ v v') (ha:eQ ρ args args') (ei:inv g as h=some (u,h'))
  (hr:HR ρ h w) (hu:gK ρ h.next h'.next):∃ fr0 N,(do let d ← Deferred.ofValue v' ⟨args'⟩;invoke d.target d.args:Sem Next).run P w = .ok N w∧V9 P N fr0 ∧
   ∀ c cs,∃ ρ' u' w',Steps P (lone fr0 (c::cs) w) (lone (c.finish u') cs w')∧Stp ρ h w ρ' h' w'∧HR ρ' h' w'∧VR ρ' u u':=by
 unfold callee at e
 split at e
 ·rename_i f a b
  cases e
  cases hv with
  | same h=>cases h
  | func h1 h2=>
   rename_i a' b'
   obtain ⟨fr0,⟨fn,c,q1,q2,q3,q4⟩,hst⟩:=(hI _ _ _ _ _ ei).2 ρ w (.func f) (a'++args'++b') rfl ((h1.append ha).append h2) hr hu
   refine ⟨fr0,.enter f ⟨a'++args'++b'⟩,?_,.inl ⟨_,_,rfl,q4⟩,hst⟩
   have hc:=jg q1 q3 q2 ⟨a'++args'++b'⟩ w
   have e1:(⟨a'⟩:Array Value)++⟨args'⟩++⟨b'⟩=⟨a'++args'++b'⟩:=by simp
   simp only [Deferred.ofValue,Sem.run_bind,Sem.run_pure,Result.andThen,invoke,e1,hc]
 ·rename_i l a b
  cases e
  cases hv with
  | same h=>cases h
  | yield h1=>
   rename_i l'
   obtain ⟨fr0,⟨r,q1,q2,q3⟩,hst⟩:=(hI _ _ _ _ _ ei).2 ρ w (.yield l') ([]++args') h1 (eQ.append .nil ha) hr hu
   refine ⟨fr0,_,?_,.inr ⟨_,_,_,_,_,rfl,q3⟩,hst⟩
   have hy:=run_yield (P:=P) (args:=⟨[]++args'⟩) q1 (by simpa using q2)
   have e1:(#[]:Array Value)++⟨args'⟩=⟨[]++args'⟩:=by simp
   simp only [Deferred.ofValue,Sem.run_bind,Sem.run_pure,Result.andThen,invoke,e1,hy]
 ·cases e
theorem step_next {b:Frame} {a:Act} {k:List Item} {cs:List Frame} {w w':World} {ops:Array Oper} {i:Nat} {rest:List Nat} {o:Oper} {N:Next} {fr0:Frame} (ho:ops[i]? = some o) (hw:Region.wanted o (yielded ops a.tmps)=true)
  (hd:∀ c,o.op ≠ .defer c) (hr:(execOp a.eval o).run P w = .ok N w') (hN:V9 P N fr0) :
  step P (lone (b.atR a (.inRegion ops (i::rest)::k)) cs w) = .next (lone fr0 (b.atR a (.inRegion ops (i::rest)::k)::cs) w'):=by
 refine step_lone_go ?_
 rw [stepGR_op ho hw,Oper.semAt_eq _ _ _ hd]
 rcases hN with ⟨f,args,rfl,rfl⟩ | ⟨l,f,tmps,as,bd,rfl,rfl⟩
 ·simp [stepG.apply,Sem.runT_eq,hr,Frame.atR]
 ·simp [stepG.apply,Sem.runT_eq,hr,Frame.atR]
theorem jo {b:Frame} {a:Act} {k:List Item} {cs:List Frame} {w w':World} {ops:Array Oper} {i:Nat} {rest:List Nat} {o:Oper} {N:Next} {v:Value} (ho:ops[i]? = some o) (hw:Region.wanted o (yielded ops a.tmps)=true)
  (hd:∀ c,o.op ≠ .defer c) (hr:(execOp a.eval o).run P w = .ok N w') (hN:Gives N v) :
  step P (lone (b.atR a (.inRegion ops (i::rest)::k)) cs w) = .next (lone (b.atR (a.put o.dst v) (.inRegion ops rest::k)) cs w'):=by
 have hf:=Frame.finish_atR b a ops i rest k v
 rw [ho] at hf
 simp only [Option.bind_some] at hf
 rw [←hf]
 refine step_lone_go ?_
 rw [stepGR_op ho hw,Oper.semAt_eq _ _ _ hd]
 rcases hN with rfl | ⟨rfl,rfl⟩
 ·simp [stepG.apply,Sem.runT_eq,hr]
 ·simp [stepG.apply,Sem.runT_eq,hr]
def V8 (P:Program) (ρ:aY) (h:H) (ops:Array Oper) (o:Oper) (i:Nat) (b:Frame) (a:Act) (k:List Item) (cs:List Frame) (w:World) (v:Value) (h':H):Prop:=
 ∀ rest,∃ ρ' v' w',Steps P (lone (b.atR a (.inRegion ops (i::rest)::k)) cs w) (lone (b.atR (a.put o.dst v') (.inRegion ops rest::k)) cs w')∧Stp ρ h w ρ' h' w'∧HR ρ' h' w'∧VR ρ' v v'
theorem gq {ρE:Operand→Option Value} {o:Op} {v:Value} (e:jQ P ρE o=some v):∀ c,o ≠ .defer c:=by
 rintro c rfl;simp [jQ] at e
theorem qF {ρE:Operand→Option Value} {o:Op} {h:H} {x:Value × H} (e:tZ P ρE o h=some x):∀ c,o ≠ .defer c:=by
 rintro c rfl;simp [tZ,fE] at e
theorem qo (hI:lQ inv) {t:T Value} {h h':H} {o:Op} {v:Value} (e:lT P inv t h o=some (v,h')):h.next≤h'.next:=by
 unfold lT at e
 split at e
 ·split at e
  ·cases e;exact Nat.le_refl _
  ·cases e
 ·split at e
  ·split at e
   ·unfold Gp at e
    split at e
    ·split at e
     ·split at e
      ·exact hI _ _ _ _ _ e
      ·cases e
     ·cases e
    ·cases e
   ·exact FT e
  ·exact FT e
theorem Oi (hI:iH P inv) {ρ:aY} {n:Nat} {t:T Value} {h h':H} {o:Oper} {v:Value} (e:lT P inv t h o.op=some (v,h')) {ops:Array Oper} {i:Nat} {b:Frame} {a:Act} {k:List Item} {cs:List Frame} {w:World}
  (ho:ops[i]? = some o) (hw:Region.wanted o (yielded ops a.tmps)=true) (ht:TR ρ n t a.tmps) (hr:HR ρ h w) (hu:gK ρ h.next h'.next):V8 P ρ h ops o i b a k cs w v h':=by
 have hE:=dh ht
 have heap:tZ P (aG t) o.op h=some (v,h')→V8 P ρ h ops o i b a k cs w v h':=fun e rest=>by
  obtain ⟨N,v',w',ρ',q1,q2,q3,q4,q5⟩:=XR hE hr e hu
  exact ⟨ρ',v',w',.one (jo ho hw (qF e) q1 q2),q3,q4,q5⟩
 unfold lT at e
 split at e
 ·split at e
  ·rename_i u hp
   cases e
   intro rest
   obtain ⟨v',q1,q2⟩:=pure_ok hE hp w
   exact ⟨ρ,v',w,.one (jo ho hw (gq hp) q1 (.inl rfl)),.refl ρ h w w rfl,hr,q2⟩
  ·cases e
 ·split at e
  ·rename_i c hop
   split at e
   ·rename_i f hc
    unfold Gp at e
    split at e
    ·rename_i fv hf
     split at e
     ·rename_i args hargs
      split at e
      ·rename_i g as hcl
       intro rest
       obtain ⟨fr0,N,q1,q2,q3⟩:=TC hI hcl (hE _ _ hf) (hE.opts hargs) e hr hu
       have hrun:(execOp a.eval o).run P w = .ok N w:=by
        unfold execOp
        rw [hop]
        show (do let d ← resolve a.eval c o.type;invoke d.target d.args:Sem Next).run P w=_
        have e1:(⟨c.args.toList.map a.eval⟩:Array Value)=c.args.map a.eval:=by apply Array.ext';simp
        rw [e1] at q1
        unfold resolve
        rw [hc]
        exact q1
       have hnd:∀ c',o.op ≠ .defer c':=fun c'=>by rw [hop];simp
       obtain ⟨ρ',u',w',s1,s2,s3,s4⟩:=q3 (b.atR a (.inRegion ops (i::rest)::k)) cs
       refine ⟨ρ',u',w',.head (step_next ho hw hnd hrun q2) ?_,s2,s3,s4⟩
       have hf:=Frame.finish_atR b a ops i rest k u'
       rw [ho] at hf
       simp only [Option.bind_some] at hf
       rw [←hf]
       exact s1
      ·cases e
     ·cases e
    ·cases e
   ·exact heap e
  ·exact heap e
end Ev
end Go
end
end
section
section
namespace Go
namespace Ev
variable {P:Program} {inv:Iv}
def V3 (P:Program) (ρ:aY) (n:Nat) (h:H) (w:World) (m:Machine) (b:Frame) (ds:List Deferred) (k:List Item) (cs:List Frame) (t':T Value) (h':H):Prop:=
 ∃ ρ' a' w',Steps P m (lone (b.atR a' k) cs w')∧a'.defers=ds∧Stp ρ h w ρ' h' w'∧HR ρ' h' w'∧TR ρ' n t' a'.tmps
theorem Stp.QL {ρ ρ':aY} {h h':H} {w w':World} (s:Stp ρ h w ρ' h' w') {a b:Nat} (hu:gK ρ a b) (ha:h'.next≤a):gK ρ' a b:=hu.step s ha
theorem dX (hI:lQ inv) {ck:Ck} {n:Nat} {all:List Oper}:∀ {l:List Oper} {t t':T Value} {h h':H},jm P inv ck n all l t h=some (t',h')→h.next≤h'.next
 | [],t,t',h,h',e=>by cases e;exact Nat.le_refl _
 | o::l,t,t',h,h',e=>by
  simp only [jm] at e
  split at e
  ·split at e
   ·split at e
    ·rename_i e1
     split at e
     ·exact Nat.le_trans (qo hI e1) (dX hI e)
     ·cases e
    ·cases e
   ·cases e
  ·split at e
   ·split at e
    ·exact dX hI e
    ·cases e
   ·cases e
  ·cases e
theorem BG (hI:iH P inv) {ck:Ck} {n:Nat} {ops:Array Oper} {b:Frame} {k:List Item} {cs:List Frame}:∀ {l:List Oper} {i:Nat} {t t':T Value} {h h':H},l=ops.toList.drop i→jm P inv ck n ops.toList l t h=some (t',h') →
  ∀ {ρ:aY} {a:Act} {w:World},TR ρ n t a.tmps→HR ρ h w→gK ρ h.next h'.next→V3 P ρ n h w (lone (b.atR a (.inRegion ops (List.range' i l.length)::k)) cs w) b a.defers k cs t' h'
 | [],i,t,t',h,h',hl,e,ρ,a,w,ht,hr,hu=>by
  cases e
  exact ⟨ρ,a,w,.one stepR_region_end,rfl,.refl ρ h w w rfl,hr,ht⟩
 | o::l,i,t,t',h,h',hl,e,ρ,a,w,ht,hr,hu=>by
  have ho:ops[i]? = some o:=by
   have:(ops.toList.drop i)[0]? = some o:=by rw [←hl];rfl
   simpa using this
  have hl':l=ops.toList.drop (i+1):=by
   rw [←List.drop_drop,← hl];rfl
  have hrange:List.range' i (o::l).length=i::List.range' (i+1) l.length:=by simp [List.range'_succ]
  rw [hrange]
  simp only [jm] at e
  split at e
  ·rename_i hw
   have hwant:=dP ht hw
   split at e
   case h_2=>cases e
   split at e
   ·rename_i v h1 e1
    split at e
    ·rename_i t1 e2
     have n1:=qo hI.next e1
     have n2:=dX hI.next e
     obtain ⟨ρ1,v',w1,s1,s2,s3,s4⟩:=Oi (b:=b) (k:=k) (cs:=cs) hI e1 ho hwant ht hr (hu.sub (Nat.le_refl _) n2) (List.range' (i+1) l.length)
     have ht1:TR ρ1 n t1 (a.put o.dst v').tmps:=(ht.mono s2.le).put e2 s4
     obtain ⟨ρ2,a2,w2,q1,q2,q3,q4,q5⟩:=BG hI hl' e ht1 s3 ((hu.sub n1 (Nat.le_refl _)).step s2 (Nat.le_refl _))
     exact ⟨ρ2,a2,w2,s1.trans q1,by rw [q2,put_defers],s2.trans q3,q4,q5⟩
    ·cases e
   ·cases e
  ·rename_i hw
   have hwant:=dP ht hw
   split at e
   case h_2=>cases e
   split at e
   ·rename_i t1 e2
    have ht1:TR ρ n t1 (a.put o.dst undef).tmps:=ht.put e2 ja
    have hs:=stepR_op_skip (P:=P) (b:=b) (a:=a) (k:=k) (cs:=cs) (w:=w) (ops:=ops) (i:=i) (rest:=List.range' (i+1) l.length) (by rw [ho];simpa using hwant)
    rw [ho] at hs
    obtain ⟨ρ2,a2,w2,q1,q2,q3,q4,q5⟩:=BG hI hl' e ht1 hr hu
    exact ⟨ρ2,a2,w2,.head hs q1,by rw [q2,put_defers],q3,q4,q5⟩
   ·cases e
  ·cases e
def RdR (ρ:aY):Option Nat→Option Nat→Prop
 | none,none=>True
 | some l,some l'=>BR ρ l l'
 | _,_=>False
theorem RdR.mono {ρ ρ':aY} (h:Le ρ ρ'):∀ {l l':Option Nat},RdR ρ l l'→RdR ρ' l l'
 | none,none,_=>trivial
 | some _,some _,e=>BR.mono h e
def MR (ρ:aY):List Nat→List Deferred→Prop
 | [],[]=>True
 | r::rs,d::ds=>(∃ r',d={ target:=.collected r',args:=#[] }∧BR ρ r r')∧MR ρ rs ds
 | _,_=>False
theorem MR.mono {ρ ρ':aY} (h:Le ρ ρ'):∀ {l:List Nat} {ds:List Deferred},MR ρ l ds→MR ρ' l ds
 | [],[],_=>trivial
 | _::_,_::_,⟨⟨r',e1,e2⟩,e3⟩=>⟨⟨r',e1,e2.mono h⟩,e3.mono h⟩
structure Sits (ρ:aY) (fn:FuncId) (n:Nat) (rd:Option Nat) (s:St) (b:Frame) (a:Act):Prop where
 DT:b.fn=fn
 kind:b.kind = .normal
 DJ:RdR ρ rd b.roundOf
 tmps:TR ρ n s.t a.tmps
 marks:MR ρ s.marks a.defers
def vV (P:Program) (m:Machine) (b:Frame) (a:Act) (k:List Item) (cs:List Frame) (w:World):Ex→Prop
 | .normal=>Steps P m (lone (b.atR a k) cs w)
 | .exit id=>(∀ k',exitTo id k=some k'→Steps P m (lone (b.atR a k') cs w))∧(exitTo id k=none→∃ k0,exitTo id k0=none∧Steps P m (lone (b.atR a (.code (.exit id)::k0)) cs w))
 | .ret=>∃ k0,Steps P m (lone (b.atR a (.code .ret::k0)) cs w)
theorem vV.of_steps {m m1:Machine} {b:Frame} {a:Act} {k:List Item} {cs:List Frame} {w:World} {e:Ex} (h:Steps P m m1) (g:vV P m1 b a k cs w e):vV P m b a k cs w e:=by
 cases e with
 | normal=>exact h.trans g
 | exit id=>exact ⟨fun k' hk=>h.trans (g.1 k' hk),fun hk=>let ⟨k0,q1,q2⟩:=g.2 hk;⟨k0,q1,h.trans q2⟩⟩
 | ret=>obtain ⟨k0,q⟩:=g;exact ⟨k0,h.trans q⟩
theorem vV.pass {m:Machine} {b:Frame} {a:Act} {x:Item} {k:List Item} {cs:List Frame} {w:World} {e:Ex} (hx:x.plain=true) (he:e ≠ .normal) (g:vV P m b a (x::k) cs w e):vV P m b a k cs w e:=by
 have hxx:∀ id,exitTo id (x::k)=exitTo id k:=fun id=>by cases x<;>simp_all [exitTo,Item.plain]
 cases e with
 | normal=>exact absurd rfl he
 | exit id=>
  simp only [vV] at g ⊢
  rw [hxx] at g
  exact g
 | ret=>exact g
def rP (P:Program) (fn:FuncId) (n:Nat) (rd:Option Nat) (c:Code) (s:St) (x:Ex × St):Prop:=s.h.next≤x.2.h.next ∧
 ∀ ρ b a k cs w,Sits ρ fn n rd s b a→HR ρ s.h w→gK ρ s.h.next x.2.h.next→∃ ρ' a' w',vV P (lone (b.atR a (.code c::k)) cs w) b a' k cs w' x.1∧Stp ρ s.h w ρ' x.2.h w'∧HR ρ' x.2.h w'∧Sits ρ' fn n rd x.2 b a'
end Ev
end Go
end
end
section
section
namespace Go
namespace Ev
variable {P:Program} {inv:Iv}
def fF (P:Program) (inv:Iv):Prop:=∀ (ck:Ck) (n:Nat) (ops:Array Oper) (t t':T Value) (h h':H),yZ P inv ck n ops.toList t h=some (t',h')→h.next≤h'.next ∧
 ∀ {ρ:aY} {b:Frame} {a:Act} {k:List Item} {cs:List Frame} {w:World} (x:Nat),b.kind = .normal→TR ρ n t a.tmps→HR ρ h w→gK ρ h.next h'.next →
  V3 P ρ n h w (lone (b.atR a (.inRegion ops (Region.schedule (P.follows .mixedOrders) ops x)::k)) cs w) b a.defers k cs t' h'
theorem HR.heap {ρ:aY} {h:H} {w w':World} (hr:HR ρ h w) (e:w'.heap=w.heap):HR ρ h w':=⟨hr.dH.same e,fun b o hb=>by
 obtain ⟨x,k,o',h1,h2,h3⟩:=hr.ob b o hb
 exact ⟨x,k,o',h1,by rw [e];exact h2,h3⟩,hr.inj⟩
theorem Stp.heap {ρ ρ':aY} {h h':H} {w w0 w':World} (s:Stp ρ h w0 ρ' h' w') (e:w0.heap=w.heap):Stp ρ h w ρ' h' w':=by
 obtain ⟨s1,s2,s3,s4,l,s5,s6,s7,s8,s9⟩:=s
 exact ⟨s1,s2,s3,by rw [←e];exact s4,l,s5,by rw [←e];exact s6,by rw [←e];exact s7,s8,s9⟩
theorem KP (hI:iH P inv) (hD:fF P inv) {fn:FuncId} {n id:Nat} {rd:Option Nat} {ops:Array Oper} {draw:Bool} {s:St} {x:Ex × St} (e:Jd P inv n ops.toList draw s=some x):rP P fn n rd (.region id ops draw) s x:=by
 unfold Jd at e
 split at e
 ·split at e
  ·rename_i t h e1
   cases e
   refine ⟨dX hI.next e1,fun ρ b a k cs w hs hr hu=>?_⟩
   obtain ⟨ρ',a',w',q1,q2,q3,q4,q5⟩:=BG (b:=b) (k:=k) (cs:=cs) hI (i:=0) (by simp) e1 hs.tmps hr hu
   refine ⟨ρ',a',w',.head stepR_region ?_,q3,q4,hs.DT,hs.kind,hs.DJ.mono q3.le,q5,by rw [q2];exact hs.marks.mono q3.le⟩
   rw [List.range_eq_range']
   simpa using q1
  ·cases e
 ·split at e
  ·rename_i t h e1
   cases e
   obtain ⟨n1,hd⟩:=hD _ n ops s.t t s.h h e1
   refine ⟨n1,fun ρ b a k cs w hs hr hu=>?_⟩
   obtain ⟨ρ',a',w',q1,q2,q3,q4,q5⟩:=hd (b:=b) (k:=k) (cs:=cs) (w:={ w with drawn:=w.drawn+1 }) (w.tape w.drawn (.order b.fn id)) hs.kind hs.tmps (hr.heap rfl) hu
   exact ⟨ρ',a',w',.head stepR_region_draw q1,q3.heap rfl,q4,hs.DT,hs.kind,hs.DJ.mono q3.le,q5,by rw [q2];exact hs.marks.mono q3.le⟩
  ·cases e
theorem Sits.same {ρ:aY} {fn:FuncId} {n:Nat} {rd:Option Nat} {s:St} {b:Frame} {a:Act} (h:Sits ρ fn n rd s b a):Sits ρ fn n rd s b a:=h
theorem rP.one {fn:FuncId} {n:Nat} {rd:Option Nat} {c:Code} {s:St} {e:Ex} (h:∀ b a k cs w,vV P (lone (b.atR a (.code c::k)) cs w) b a k cs w e):rP P fn n rd c s (e,s):=
 ⟨Nat.le_refl _,fun ρ b a k cs w hs hr _=>⟨ρ,a,w,h b a k cs w,.refl ρ s.h w w rfl,hr,hs⟩⟩
theorem rP.seq {fn:FuncId} {n:Nat} {rd:Option Nat} {c d:Code} {s s1:St} {x:Ex × St} (h1:rP P fn n rd c s (.normal,s1)) (h2:rP P fn n rd d s1 x):s.h.next≤x.2.h.next ∧
  ∀ ρ b a k cs w,Sits ρ fn n rd s b a→HR ρ s.h w→gK ρ s.h.next x.2.h.next→∃ ρ' a' w',vV P (lone (b.atR a (.code c :: .code d::k)) cs w) b a' k cs w' x.1∧Stp ρ s.h w ρ' x.2.h w'∧HR ρ' x.2.h w'∧Sits ρ' fn n rd x.2 b a':=by
 obtain ⟨n1,h1⟩:=h1
 obtain ⟨n2,h2⟩:=h2
 simp only at n1 h1
 refine ⟨Nat.le_trans n1 n2,fun ρ b a k cs w hs hr hu=>?_⟩
 obtain ⟨ρ1,a1,w1,q1,q2,q3,q4⟩:=h1 ρ b a (.code d::k) cs w hs hr (hu.sub (Nat.le_refl _) n2)
 obtain ⟨ρ2,a2,w2,p1,p2,p3,p4⟩:=h2 ρ1 b a1 k cs w1 q4 q3 ((hu.sub n1 (Nat.le_refl _)).step q2 (Nat.le_refl _))
 exact ⟨ρ2,a2,w2,p1.of_steps q1,q2.trans p2,p3,p4⟩
theorem Ir {fn:FuncId} {n:Nat} {rd:Option Nat} {c:Code} {f:St→Option (Ex × St)} (hf:∀ s x,f s=some x→rP P fn n rd c s x):∀ (m:Nat) (s:St) (x:Ex × St),Qb f m s=some x→s.h.next≤x.2.h.next ∧
  ∀ ρ b a k cs w,Sits ρ fn n rd s b a→HR ρ s.h w→gK ρ s.h.next x.2.h.next→∃ ρ' a' w',vV P (lone (b.atR a (.code c :: .inLoop c::k)) cs w) b a' k cs w' x.1∧Stp ρ s.h w ρ' x.2.h w'∧HR ρ' x.2.h w'∧Sits ρ' fn n rd x.2 b a'
 | 0,s,x,e=>by cases e
 | m+1,s,x,e=>by
  simp only [Qb] at e
  split at e
  ·rename_i s1 e1
   obtain ⟨n1,h1⟩:=hf _ _ e1
   obtain ⟨n2,h2⟩:=Ir hf m s1 x e
   simp only at n1 h1
   refine ⟨Nat.le_trans n1 n2,fun ρ b a k cs w hs hr hu=>?_⟩
   obtain ⟨ρ1,a1,w1,q1,q2,q3,q4⟩:=h1 ρ b a (.inLoop c::k) cs w hs hr (hu.sub (Nat.le_refl _) n2)
   obtain ⟨ρ2,a2,w2,p1,p2,p3,p4⟩:=h2 ρ1 b a1 k cs w1 q4 q3 ((hu.sub n1 (Nat.le_refl _)).step q2 (Nat.le_refl _))
   exact ⟨ρ2,a2,w2,p1.of_steps (q1.trans (.one stepR_inLoop)),q2.trans p2,p3,p4⟩
  ·rename_i y hy e1
   cases e
   obtain ⟨n1,h1⟩:=hf _ _ e1
   refine ⟨n1,fun ρ b a k cs w hs hr hu=>?_⟩
   obtain ⟨ρ1,a1,w1,q1,q2,q3,q4⟩:=h1 ρ b a (.inLoop c::k) cs w hs hr hu
   exact ⟨ρ1,a1,w1,q1.pass rfl (fun e0=>by
    obtain ⟨e',s'⟩:=x
    simp only at e0
    subst e0
    exact hy s' rfl),q2,q3,q4⟩
  ·cases e
theorem Po {fn:FuncId} {n id:Nat} {rd:Option Nat} {c:Code} {s:St} {y x:Ex × St} (h:rP P fn n rd c s y) (e:zh id (some y)=some x):rP P fn n rd (.block id c) s x:=by
 obtain ⟨n1,h1⟩:=h
 obtain ⟨ey,sy⟩:=y
 have hx:x.2=sy∧(x.1=ey∨(ey = .exit id∧x.1 = .normal))∧(ey = .exit id→x.1 = .normal):=by
  unfold zh at e
  split at e
  ·rename_i i s' e0
   obtain ⟨rfl,rfl⟩:=Prod.mk.inj (Option.some.inj e0)
   split at e
   ·rename_i hb;cases e;obtain rfl:=Nat.eq_of_beq_eq_true hb;exact ⟨rfl,.inr ⟨rfl,rfl⟩,fun _=>rfl⟩
   ·rename_i hb;cases e;exact ⟨rfl,.inl rfl,fun e1=>by cases e1;simp at hb⟩
  ·rename_i hy
   cases e
   exact ⟨rfl,.inl rfl,fun e1=>by subst e1;exact absurd rfl (hy id sy)⟩
 obtain ⟨ex,sx⟩:=x
 simp only at hx n1 h1
 obtain ⟨rfl,hx2,hx3⟩:=hx
 refine ⟨n1,fun ρ b a k cs w hs hr hu=>?_⟩
 obtain ⟨ρ1,a1,w1,q1,q2,q3,q4⟩:=h1 ρ b a (.inBlock id::k) cs w hs hr hu
 refine ⟨ρ1,a1,w1,?_,q2,q3,q4⟩
 refine vV.of_steps (.one stepR_block) ?_
 cases ey with
 | normal=>
  rcases hx2 with rfl | ⟨h0,_⟩
  ·exact q1.trans (.one stepR_inBlock)
  ·cases h0
 | ret=>
  rcases hx2 with rfl | ⟨h0,_⟩
  ·exact q1
  ·cases h0
 | exit i=>
  by_cases hi:i=id
  ·subst hi
   have:ex = .normal:=hx3 rfl
   subst this
   exact q1.1 k (by simp [exitTo])
  ·rcases hx2 with rfl | ⟨h0,_⟩
   ·have hx:exitTo i (.inBlock id::k)=exitTo i k:=by
     have:(id==i)=false:=by simp;exact fun h=>hi h.symm
     simp [exitTo,this]
    simp only [vV] at q1 ⊢
    rw [hx] at q1
    exact q1
   ·cases h0;exact absurd rfl hi
theorem Sl {m:Machine} {b:Frame} {a:Act} {k:List Item} {cs:List Frame} {w:World} {j:Option Code} {e:Ex} (hj:JD j=some e) (h:Steps P m (lone (b.atR a ((j.map Item.code).toList++k)) cs w)):vV P m b a k cs w e:=by
 unfold JD at hj
 split at hj
 ·cases hj;exact h
 ·cases hj;exact ⟨k,h⟩
 ·rename_i id
  cases hj
  exact ⟨fun k' hk=>h.trans (.one (stepR_exit hk)),fun hk=>⟨k,hk,h⟩⟩
 ·cases hj
theorem XU (hI:iH P inv) {ρ:aY} {v v' u:Value} {args args':List Value} {g:FuncId} {as:List Value} {h h':H} {w:World} (e:callee v args=some (.func g,as)) (hv:VR ρ v v') (ha:eQ ρ args args') (ei:inv (.func g) as h=some (u,h'))
  (hr:HR ρ h w) (hu:gK ρ h.next h'.next):∃ d as',(Deferred.ofValue v' ⟨args'⟩).run P w = .ok d w∧(invoke d.target d.args).run P w = .ok (.enter g as') w ∧
   ∀ c cs,∃ ρ' u' w',Steps P (lone (Frame.enter P g as' .normal) (c::cs) w) (lone (c.finish u') cs w')∧Stp ρ h w ρ' h' w'∧HR ρ' h' w'∧VR ρ' u u':=by
 unfold callee at e
 split at e
 ·rename_i f a b
  cases e
  cases hv with
  | same h=>cases h
  | func h1 h2=>
   rename_i a' b'
   obtain ⟨fr0,⟨fn,c,q1,q2,q3,rfl⟩,hst⟩:=(hI _ _ _ _ _ ei).2 ρ w (.func g) (a'++args'++b') rfl ((h1.append ha).append h2) hr hu
   have hc:=jg q1 q3 q2 ⟨a'++args'++b'⟩ w
   have e1:(⟨a'⟩:Array Value)++⟨args'⟩++⟨b'⟩=⟨a'++args'++b'⟩:=by simp
   exact ⟨_,_,rfl,by simp only [invoke,e1,hc],hst⟩
 ·cases e
 ·cases e
theorem Jz {ρ:aY} {h:H} {w:World} (hr:HR ρ h w) {l l':Nat} {st:LoopState} {j:Option Code} {f:FuncId} {t:T Value} {n:Nat} {ps:Array Tmp} {as b:Code} {d:Nat} (hb:h.get l=some (.loop st j f t n ps as b d)) (hB:BR ρ l l') :
  ∃ k tm d',ρ l = .at_ l' k∧w.heap[l']? = some (.loop { state:=st,pending:=j,fn:=f,tmps:=tm,params:=ps,assign:=as,body:=b,defers:=d' })∧TR ρ n t tm∧BR ρ d d':=by
 obtain ⟨x,k,o',h1,h2,tm,d',h3,h4,h5⟩:=hr.ob l _ hb
 obtain rfl:=hB.at_ h1
 exact ⟨k,tm,d',h1,by rw [h2,h3],h4,h5⟩
theorem FB {ρ:aY} {h:H} {w:World} (hr:HR ρ h w) {l l':Nat} {st st':LoopState} {j j':Option Code} {f:FuncId} {t:T Value} {n:Nat} {ps:Array Tmp} {as b:Code} {d:Nat} (hb:h.get l=some (.loop st j f t n ps as b d)) (hB:BR ρ l l') (ht:l<top) :
  ∃ r:Loop,w.heap[l']? = some (.loop r)∧r.state=st∧r.pending=j∧r.fn=f∧r.params=ps∧r.assign=as∧r.body=b∧TR ρ n t r.tmps ∧
   Stp ρ h w ρ (h.put l (.loop st' j' f t n ps as b d)) (w.putObj l' (.loop { r with state:=st',pending:=j' }))∧HR ρ (h.put l (.loop st' j' f t n ps as b d)) (w.putObj l' (.loop { r with state:=st',pending:=j' })):=by
 obtain ⟨k,tm,d',h1,h2,h3,h4⟩:=Jz hr hb hB
 have hlt:=(Array.getElem?_eq_some_iff.1 h2).1
 obtain ⟨s1,s2⟩:=wO (o:=.loop st' j' f t n ps as b d) hb h1 ht (w:=w) (w':=w.putObj l' (.loop { state:=st',pending:=j',fn:=f,tmps:=tm,params:=ps,assign:=as,body:=b,defers:=d' }))
  (by simp) (World.putObj_heap_same hlt) (fun y hy=>World.putObj_heap_other hy) hr ⟨tm,d',rfl,h3,h4⟩
 exact ⟨_,h2,rfl,rfl,rfl,rfl,rfl,rfl,h3,s1,s2⟩
theorem Ur {h:H} {b:Nat} {o:Ob}:(h.put b o).next=h.next:=rfl
theorem Cm (hI:iH P inv) {s:St} {f:Operand} {l:Nat} {marks:List Nat} {h:H} {x:Ex × St} (e:xJ inv s f l marks h=some x):h.next≤x.2.h.next:=by
 unfold xJ at e
 repeat' split at e
 all_goals first
  | (cases e;done)
  | (cases e;have h1:=(hI _ _ _ _ _ ‹inv _ _ h=_›).1;exact h1)
theorem Ie (hI:iH P inv) {s:St} {f:Operand} {l:Nat} {marks:List Nat} {h:H} {x:Ex × St} (e:xJ inv s f l marks h=some x) {ρ:aY} {fn:FuncId} {n:Nat} {rd:Option Nat} {b:Frame} {a:Act} {ps:Array Tmp} {as bd:Code}
  {l':Nat} {mark:List Deferred} {k:List Item} {cs:List Frame} {w w1:World} (hen:(Instr.enterLoop b.fn a.tmps ps as bd b.roundOf).run P w = .ok (l',mark) w1) (hl:BR ρ l l')
  (hs:Sits ρ fn n rd ⟨s.t,h,marks⟩ b { a with defers:=mark++a.defers }) (hr:HR ρ h w1) (hu:gK ρ h.next x.2.h.next) :
  ∃ ρ' a' w',vV P (lone (b.atR a (.code (.rangeFunc f ps as bd)::k)) cs w) b a' k cs w' x.1∧Stp ρ h w1 ρ' x.2.h w'∧HR ρ' x.2.h w'∧Sits ρ' fn n rd x.2 b a':=by
 unfold xJ at e
 split at e
 ·cases e
 ·rename_i v hv
  split at e
  ·rename_i g args hcl
   split at e
   ·cases e
   ·rename_i u h1 ei
    split at e
    ·rename_i st j f' t' n' ps' as' b' d' hg ht
     split at e
     ·cases e
     ·rename_i hst
      split at e
      ·rename_i ex hj
       cases e
       rw [Nat.blt_eq] at ht
       have hE:=dh hs.tmps
       obtain ⟨d,as1,q1,q2,q3⟩:=XU hI hcl (hE _ _ hv) (.cons (.yield hl) .nil) ei hr hu
       obtain ⟨ρ1,u',w2,p1,p2,p3,p4⟩:=q3 (b.atR { a with defers:=mark++a.defers } (.inRangeFunc l'::k)) cs
       have hl1:BR ρ1 l l':=hl.mono p2.le
       obtain ⟨r,r1,r2,r3,_,_,_,_,_,r4,r5⟩:=FB (st':=.exhausted) (j':=j) p3 hg hl1 ht
       have hend:=run_endLoop (P:=P) r1 (by rw [r2];exact hst)
       have he:(Instr.endLoop l').run P w2 = .ok j (w2.putObj l' (.loop { r with state:=.exhausted,pending:=j })):=by rw [hend,r3]
       have hres:(resolve a.eval (rangeCall f l') 0).run P w1 = .ok d w1:=by
        unfold resolve
        simp only [List.map_toArray,List.map_cons,List.map_nil]
        exact q1
       have henter:=stepR_rangeFunc (P:=P) (b:=b) (a:=a) (k:=k) (cs:=cs) (w:=w) hen hres q2
       rw [finish_atR_inRangeFunc] at p1
       have hback:Steps P (lone (b.atR a (.code (.rangeFunc f ps as bd)::k)) cs w) (lone (b.atR { a with defers:=mark++a.defers } ((j.map Item.code).toList++k)) cs (w2.putObj l' (.loop { r with state:=.exhausted,pending:=j }))):=
        .head henter (p1.trans (.one (stepR_endRangeFunc he)))
       refine ⟨ρ1,{ a with defers:=mark++a.defers },_,Sl hj hback,p2.trans r4,r5,hs.DT,hs.kind,hs.DJ.mono p2.le,hs.tmps.mono p2.le,hs.marks.mono p2.le⟩
      ·cases e
    ·cases e
  ·cases e
theorem O5 (hI:iH P inv) {fn:FuncId} {n:Nat} {rd:Option Nat} {f:Operand} {ps:Array Tmp} {as bd:Code} {s:St} {x:Ex × St} (e:O6 inv fn n rd f ps as bd s=some x):rP P fn n rd (.rangeFunc f ps as bd) s x:=by
 unfold O6 at e
 split at e
 ·
  split at e
  ·rename_i r h1 e1
   split at e
   ·rename_i l h2 e2
    have n1:=qw e1
    have n2:=qw e2
    have n3:=Cm hI e
    refine ⟨by omega,fun ρ b a k cs w hs hr hu=>?_⟩
    obtain ⟨p1,p2,p3,p4⟩:=H.jh e1
    obtain ⟨r1,r2,r3,r4⟩:=H.jh e2
    have hur:=hu r (by omega) (by omega)
    obtain ⟨s1,s2⟩:=wS e1 hur (w:=w) (w':=w.alloc (.deferred (some []))) rfl hr 0 rfl
    have hul:upd ρ r (.at_ w.heap.size 0) l = .aT:=by
     rw [aJ _ _ (by omega)];exact hu l (by omega) (by omega)
    have hro:b.roundOf=none:=by
     have:=hs.DJ
     cases hb:b.roundOf with
     | none=>rfl
     | some l0=>rw [hb] at this;exact this.elim
    have hle2:=mP hul (.at_ (w.alloc (.deferred (some []))).heap.size 0)
    have hBr:BR (upd (upd ρ r (.at_ w.heap.size 0)) l (.at_ (w.alloc (.deferred (some []))).heap.size 0)) r w.heap.size:=BR.mono hle2 (by unfold BR;rw [upd_same])
    obtain ⟨t1,t2⟩:=wS e2 hul (w:=w.alloc (.deferred (some []))) (w':=(w.alloc (.deferred (some []))).alloc (.loop { state:=.ready,pending:=none,fn:=b.fn,tmps:=a.tmps,params:=ps,assign:=as,body:=bd,defers:=w.heap.size })) rfl s2 0
     ⟨a.tmps,w.heap.size,by rw [hs.DT],hs.tmps.mono (s1.le.trans hle2),hBr⟩
    have hss:=s1.trans t1
    have hen:=run_enterLoop_outer (P:=P) (w:=w) b.fn a.tmps ps as bd
    rw [←hro] at hen
    have hsize:(w.alloc (.deferred (some []))).heap.size=w.heap.size+1:=by simp
    obtain ⟨ρ',a',w',g1,g2,g3,g4⟩:=Ie hI e (k:=k) (cs:=cs) (fn:=fn) (n:=n) (rd:=none) hen (by unfold BR;rw [upd_same];exact hsize.symm)
     ⟨hs.DT,hs.kind,hs.DJ.mono hss.le,hs.tmps.mono hss.le,⟨⟨_,rfl,hBr⟩,hs.marks.mono hss.le⟩⟩ t2 ((hu.sub (by omega) (Nat.le_refl _)).step hss (Nat.le_refl _))
    exact ⟨ρ',a',w',g1,hss.trans g2,g3,g4⟩
   ·cases e
  ·cases e
 ·
  rename_i l0
  split at e
  ·rename_i st0 j0 f0 t0 n0 ps0 as0 b0 d0 hg0
   split at e
   ·rename_i l h2 e2
    have n2:=qw e2
    have n3:=Cm hI e
    refine ⟨by omega,fun ρ b a k cs w hs hr hu=>?_⟩
    obtain ⟨r1,r2,r3,r4⟩:=H.jh e2
    have hul:=hu l (by omega) (by omega)
    obtain ⟨l0',hro,hB0⟩:∃ l0',b.roundOf=some l0'∧BR ρ l0 l0':=by
     have:=hs.DJ
     cases hb:b.roundOf with
     | none=>rw [hb] at this;exact this.elim
     | some l1=>rw [hb] at this;exact ⟨l1,rfl,this⟩
    obtain ⟨kk,tm,d',q1,q2,q3,q4⟩:=Jz hr hg0 hB0
    have hle:=mP hul (.at_ w.heap.size 0)
    obtain ⟨t1,t2⟩:=wS e2 hul (w:=w) (w':=w.alloc (.loop { state:=.ready,pending:=none,fn:=b.fn,tmps:=a.tmps,params:=ps,assign:=as,body:=bd,defers:=d' })) rfl hr 0
     ⟨a.tmps,d',by rw [hs.DT],hs.tmps.mono hle,q4.mono hle⟩
    have hen:=run_enterLoop_inner (P:=P) (w:=w) q2 b.fn a.tmps ps as bd
    rw [←hro] at hen
    obtain ⟨ρ',a',w',g1,g2,g3,g4⟩:=Ie hI e (k:=k) (cs:=cs) (fn:=fn) (n:=n) (rd:=some l0) hen (by unfold BR;rw [upd_same])
     ⟨hs.DT,hs.kind,hs.DJ.mono t1.le,hs.tmps.mono t1.le,by simpa using hs.marks.mono t1.le⟩ t2 ((hu.sub (by omega) (Nat.le_refl _)).step t1 (Nat.le_refl _))
    exact ⟨ρ',a',w',g1,t1.trans g2,g3,g4⟩
   ·cases e
  ·cases e
theorem KE {b:Frame} {a:Act} {k:List Item} {cs:List Frame} {w:World} {c:Code}:step P (lone (b.atR a (.code (.scope c)::k)) cs w) = .next (lone (b.atR a (.code c :: .inScope c::k)) cs w):=
 step_lone_go (by simp [stepG,stepG.exec,Frame.atR])
theorem GZ {b:Frame} {a:Act} {k:List Item} {cs:List Frame} {w:World} {c:Code}:step P (lone (b.atR a (.inScope c::k)) cs w) = .next (lone (b.atR a k) cs w):=
 step_lone_go (by simp [stepG,stepG.exec,Frame.atR])
theorem eH (hI:iH P inv) (hD:fF P inv) {fn:FuncId} {n:Nat} {rd:Option Nat}:∀ (c:Code) (s:St) (x:Ex × St),fQ P inv fn n rd c s=some x→rP P fn n rd c s x
 | .skip,s,x,e=>by cases e;exact .one fun b a k cs w=>.one stepR_skip
 | .label l,s,x,e=>by cases e;exact .one fun b a k cs w=>.one stepR_label
 | .region id ops draw,s,x,e=>KP hI hD e
 | .seq c d,s,x,e=>by
  simp only [fQ,H8] at e
  split at e
  ·rename_i s1 e1
   obtain ⟨n1,h1⟩:=rP.seq (eH hI hD c s _ e1) (eH hI hD d s1 x e)
   refine ⟨n1,fun ρ b a k cs w hs hr hu=>?_⟩
   obtain ⟨ρ1,a1,w1,q1,q2,q3,q4⟩:=h1 ρ b a k cs w hs hr hu
   exact ⟨ρ1,a1,w1,q1.of_steps (.one stepR_seq),q2,q3,q4⟩
  ·rename_i y hy
   obtain ⟨n1,h1⟩:=eH hI hD c s x e
   refine ⟨n1,fun ρ b a k cs w hs hr hu=>?_⟩
   obtain ⟨ρ1,a1,w1,q1,q2,q3,q4⟩:=h1 ρ b a (.code d::k) cs w hs hr hu
   refine ⟨ρ1,a1,w1,vV.of_steps (.one stepR_seq) (q1.pass rfl fun e0=>?_),q2,q3,q4⟩
   obtain ⟨ex,sx⟩:=x
   simp only at e0
   subst e0
   exact hy sx e
 | .cond c d1 d2,s,x,e=>by
  simp only [fQ] at e
  split at e
  ·rename_i hc
   obtain ⟨n1,h1⟩:=eH hI hD d1 s x e
   refine ⟨n1,fun ρ b a k cs w hs hr hu=>?_⟩
   obtain ⟨ρ1,a1,w1,q1,q2⟩:=h1 ρ b a k cs w hs hr hu
   exact ⟨ρ1,a1,w1,q1.of_steps (.one (stepR_cond (t:=true) (dh hs.tmps _ _ hc).dQ)),q2⟩
  ·rename_i hc
   obtain ⟨n1,h1⟩:=eH hI hD d2 s x e
   refine ⟨n1,fun ρ b a k cs w hs hr hu=>?_⟩
   obtain ⟨ρ1,a1,w1,q1,q2⟩:=h1 ρ b a k cs w hs hr hu
   exact ⟨ρ1,a1,w1,q1.of_steps (.one (stepR_cond (t:=false) (dh hs.tmps _ _ hc).dQ)),q2⟩
  ·cases e
 | .block id c,s,x,e=>by
  simp only [fQ] at e
  cases hy:fQ P inv fn n rd c s with
  | none=>rw [hy] at e;simp [zh] at e
  | some y=>rw [hy] at e;exact Po (eH hI hD c s y hy) e
 | .loop c,s,x,e=>by
  simp only [fQ] at e
  obtain ⟨n1,h1⟩:=Ir (eH hI hD c) _ s x e
  refine ⟨n1,fun ρ b a k cs w hs hr hu=>?_⟩
  obtain ⟨ρ1,a1,w1,q1,q2⟩:=h1 ρ b a k cs w hs hr hu
  exact ⟨ρ1,a1,w1,q1.of_steps (.one stepR_loop),q2⟩
 | .rangeFunc f ps as bd,s,x,e=>O5 hI (by simpa only [fQ] using e)
 | .exit id,s,x,e=>by
  cases e
  exact .one fun b a k cs w=>⟨fun k' hk=>.one (stepR_exit hk),fun hk=>⟨k,hk,.refl _ _⟩⟩
 | .ret,s,x,e=>by cases e;exact .one fun b a k cs w=>⟨k,.refl _ _⟩
 | .scope c,s,x,e=>by
  simp only [fQ] at e
  obtain ⟨n1,h1⟩:=eH hI hD c s x e
  refine ⟨n1,fun ρ b a k cs w hs hr hu=>?_⟩
  obtain ⟨ρ1,a1,w1,q1,q2⟩:=h1 ρ b a (.inScope c::k) cs w hs hr hu
  refine ⟨ρ1,a1,w1,vV.of_steps (.one KE) ?_,q2⟩
  obtain ⟨ex,sx⟩:=x
  have hxx:∀ id,exitTo id (.inScope c::k)=exitTo id k:=fun id=>by simp [exitTo]
  cases ex with
  | normal=>exact Steps.trans q1 (.one GZ)
  | exit id=>
   simp only [vV] at q1 ⊢
   rw [hxx] at q1
   exact q1
  | ret=>exact q1
 | .goto l,s,x,e=>by simp [fQ] at e
 | .refuse y,s,x,e=>by simp [fQ] at e
end Ev
end Go
end
end
section
section
namespace Go
namespace Ev
variable {P:Program} {inv:Iv}
theorem IQ:∀ {vs:List Value} {i:Nat} {t t':T Value},qI i vs t=some t'→∀ j,t'.get j=if i≤j∧j<i+vs.length then vs[j - i]? else t.get j
 | [],i,t,t',e,j=>by
  cases e
  rw [if_neg (by intro h;simp at h;omega)]
 | v::vs,i,t,t',e,j=>by
  simp only [qI] at e
  split at e
  ·rename_i hb
   rw [Nat.blt_eq] at hb
   rw [IQ e j]
   by_cases h1:i+1≤j∧j<i+1+vs.length
   ·rw [if_pos h1,if_pos (by simp;omega)]
    have:j - i=(j - (i+1))+1:=by omega
    rw [this];rfl
   ·rw [if_neg h1,T.get_put _ _ _ _ _ (aO hb)]
    by_cases h2:j=i
    ·subst h2;rw [if_pos rfl,if_pos (by simp)];simp
    ·rw [if_neg h2,if_neg (by simp;omega)]
  ·cases e
theorem ve {ρ:aY} {args args':List Value} {t:T Value} {m:Nat} (e:qI 0 args .nil=some t) (ha:eQ ρ args args'):TR ρ (args.length+m) t ((⟨args'⟩:Array Value)++Array.replicate m undef):=by
 refine ⟨by simp [ha.length],fun i v hv=>?_⟩
 rw [IQ e] at hv
 split at hv
 ·rename_i hi
  simp only [Nat.sub_zero] at hv
  obtain ⟨v',h1,h2⟩:=ha.get hv
  refine ⟨v',?_,h2⟩
  have hlt:i<args'.length:=(List.getElem?_eq_some_iff.1 h1).1
  rw [Array.getElem?_append_left (by simpa using hlt)]
  simpa using h1
 ·simp [T.get] at hv
def yN (tm:Array Value):ResultVar→Sem Value
 | .tmp t=>pure (tm.getD t undef)
 | .cell a t=>do loadVar t (← asAddr (tm.getD a undef))
theorem NS (fn:Func) (tm:Array Value):results fn tm=(do let vs ← fn.results.mapM (yN tm);pure (if h:vs.size=1 then vs[0] else .tuple vs)):=rfl
theorem qV {ρ:aY} {t:T Value} {n:Nat} {tm:Array Value} {h:H} {w:World} (ht:TR ρ n t tm) (hr:HR ρ h w):∀ {rs:List ResultVar} {vs:List Value},pU P t h rs=some vs →
  ∃ vs',(rs.mapM (yN tm)).run P w = .ok vs' w∧eQ ρ vs vs'
 | [],vs,e=>by cases e;exact ⟨[],by simp,.nil⟩
 | .tmp d::rs,vs,e=>by
  simp only [pU] at e
  split at e
  ·rename_i v us hv hus
   cases e
   obtain ⟨vs',q1,q2⟩:=qV ht hr hus
   obtain ⟨v',p1,p2⟩:=ht.get d v hv
   have h1:(yN tm (.tmp d)).run P w = .ok v' w:=by simp [yN,Array.getD_eq_getD_getElem?,p1]
   exact ⟨v'::vs',by simp [List.mapM_cons,q1,h1],.cons p2 q2⟩
  ·cases e
 | .cell d ty::rs,vs,e=>by
  simp only [pU] at e
  split at e
  ·rename_i a hv
   split at e
   ·rename_i v us hl hus
    cases e
    obtain ⟨vs',q1,q2⟩:=qV ht hr hus
    obtain ⟨v',p1,p2⟩:=ht.get d _ hv
    obtain ⟨a',rfl,ha⟩:=p2.iQ
    obtain ⟨u',l1,l2⟩:=FC hr ha hl
    have h1:(yN tm (.cell d ty)).run P w = .ok u' w:=by simp [yN,Array.getD_eq_getD_getElem?,p1,asAddr,l1]
    exact ⟨u'::vs',by simp [List.mapM_cons,q1,h1],.cons l2 q2⟩
   ·cases e
  ·cases e
theorem sH {ρ:aY} {t:T Value} {n:Nat} {tm:Array Value} {h:H} {w:World} {fn:Func} {v:Value} (ht:TR ρ n t tm) (hr:HR ρ h w) (e:oD P t h fn.results.toList=some v) :
  ∃ v',(results fn tm).run P w = .ok v' w∧VR ρ v v':=by
 unfold oD at e
 have key:∀ {vs':List Value},(fn.results.toList.mapM (yN tm)).run P w = .ok vs' w →
   (results fn tm).run P w = .ok (if h:(⟨vs'⟩:Array Value).size=1 then (⟨vs'⟩:Array Value)[0] else .tuple ⟨vs'⟩) w:=fun {vs'} h=>by
  rw [NS,Array.mapM_eq_mapM_toList]
  simp [h]
 split at e
 ·rename_i u hu
  cases e
  obtain ⟨vs',q1,q2⟩:=qV ht hr hu
  cases q2 with
  | cons h1 h2=>
   cases h2
   exact ⟨_,key q1,by simpa using h1⟩
 ·rename_i us hne hu
  cases e
  obtain ⟨vs',q1,q2⟩:=qV ht hr hu
  refine ⟨_,key q1,?_⟩
  have hl:=q2.length
  have:¬ (⟨vs'⟩:Array Value).size=1:=fun h1=>by
   have h2:us.length=1:=by rw [←hl];simpa using h1
   match us,h2,hne with
   | [u],_,hne=>exact hne u rfl
  rw [dif_neg this]
  exact .tuple q2
 ·cases e
theorem wV:∀ {ms:List Nat} {h h':H},tJ ms h=some h'→h'.next=h.next∧∀ {ρ:aY} {fr:Frame} {ds:List Deferred} {cs:List Frame} {w:World},fr.mode ≠ .run→fr.defers=ds→MR ρ ms ds→HR ρ h w →
  ∃ w',Steps P (lone fr cs w) (lone { fr with defers:=[] } cs w')∧Stp ρ h w ρ h' w'∧HR ρ h' w'
 | [],h,h',e=>by
  cases e
  refine ⟨rfl,fun {ρ fr ds cs w} hm hd hmr hr=>?_⟩
  cases ds with
  | nil=>
   have:({ fr with defers:=[] }:Frame)=fr:=by rw [←hd]
   exact ⟨w,by rw [this];exact .refl _ _,.refl ρ h w w rfl,hr⟩
  | cons d ds=>exact hmr.elim
 | r::ms,h,h',e=>by
  simp only [tJ] at e
  split at e
  ·rename_i hg ht
   rw [Nat.blt_eq] at ht
   obtain ⟨n1,h1⟩:=wV e
   refine ⟨n1,fun {ρ fr ds cs w} hm hd hmr hr=>?_⟩
   cases ds with
   | nil=>exact hmr.elim
   | cons d ds=>
    obtain ⟨⟨r',rfl,hB⟩,hms⟩:=hmr
    obtain ⟨x,k,o',q1,q2,q3⟩:=hr.ob r _ hg
    obtain rfl:=hB.at_ q1
    have q3:o' = .deferred (some []):=q3
    subst q3
    have hlt:=(Array.getElem?_eq_some_iff.1 q2).1
    have hst:=step_collected (P:=P) (cs:=cs) hm hd rfl (run_takeDeferred q2)
    obtain ⟨s1,s2⟩:=wO (o:=.calls false) hg q1 ht (w:=w) (w':=w.putObj r' (.deferred none)) (by simp) (World.putObj_heap_same hlt) (fun y hy=>World.putObj_heap_other hy) hr rfl
    obtain ⟨w',p1,p2,p3⟩:=h1 (fr:={ fr with defers:=[]++ds }) (cs:=cs) hm rfl (by simpa using hms) s2
    exact ⟨w',.head hst p1,s1.trans p2,p3⟩
  ·cases e
theorem yS {fn:Func} {x:Ex × St} {v:Value} {h':H} (e:mO P fn x=some (v,h')):h'.next=x.2.h.next:=by
 unfold mO at e
 split at e
 ·cases e
 ·split at e
  ·rename_i h e1
   split at e
   ·cases e
    exact (wV (P:=P) e1).1
   ·cases e
  ·cases e
theorem IB (hI:iH P inv) (hD:fF P inv) {f:FuncId} {args:List Value} {h h':H} {v:Value} (e:Vg P inv f args h=some (v,h')):h.next≤h'.next∧∃ fn c,P.funcs[f]? = some fn∧fn.body=some c∧(fn.name == "runtime.NumGoroutine")=false ∧
  ∀ {ρ:aY} {args':List Value} {w:World},eQ ρ args args'→HR ρ h w→gK ρ h.next h'.next→∀ cs,∃ ρ' v' w' fr,Steps P (lone (Frame.enter P f ⟨args'⟩ .normal) cs w) (lone fr cs w')∧fr.fn=f∧fr.leaving P w' (.returned v') ∧
   Stp ρ h w ρ' h' w'∧HR ρ' h' w'∧VR ρ' v v':=by
 unfold Vg at e
 split at e
 ·rename_i fn hf
  split at e
  ·rename_i c t hb ht hname
   split at e
   ·rename_i x hx
    obtain ⟨n1,h1⟩:=eH hI hD c _ x hx
    have n2:=yS e
    simp only at n1
    refine ⟨by omega,fn,c,hf,hb,hname,fun {ρ args' w} ha hr hu cs=>?_⟩
    let b:Frame:={ (default:Frame) with fn:=f,kind:=.normal }
    have hl:=ha.length
    have henter:Frame.enter P f ⟨args'⟩ .normal=b.atR { tmps:=(⟨args'⟩:Array Value)++Array.replicate (fn.ntmps - args.length) undef,defers:=[] } [.code c]:=by
     simp [Frame.enter,Frame.atR,hf,hb,b,hl]
     rfl
    rw [henter]
    obtain ⟨ρ1,a1,w1,q1,q2,q3,q4⟩:=h1 ρ b { tmps:=(⟨args'⟩:Array Value)++Array.replicate (fn.ntmps - args.length) undef,defers:=[] } [] cs w ⟨rfl,rfl,trivial,ve ht ha,trivial⟩ hr (by rw [←n2];exact hu)
    have hret:(∃ id,x.1 = .exit id) ∨ ∃ k0,Steps P (lone (b.atR { tmps:=(⟨args'⟩:Array Value)++Array.replicate (fn.ntmps - args.length) undef,defers:=[] } [.code c]) cs w) (lone { b.atR a1 k0 with mode:=.returning } cs w1):=by
     obtain ⟨ex,sx⟩:=x
     cases ex with
     | normal=>exact .inr ⟨[],Steps.trans q1 (.one (stepR_end rfl))⟩
     | ret=>obtain ⟨k0,q1⟩:=q1;exact .inr ⟨_,q1.trans (.one (stepR_ret rfl))⟩
     | exit id=>exact .inl ⟨id,rfl⟩
    unfold mO at e
    split at e
    ·cases e
    ·rename_i hne
     obtain ⟨k0,hst⟩:=hret.resolve_left fun ⟨id,h0⟩=>hne id h0
     split at e
     ·rename_i h2 hm
      split at e
      ·rename_i u hu2
       cases e
       obtain ⟨w2,p1,p2,p3⟩:=(wV (P:=P) hm).2 (fr:={ b.atR a1 k0 with mode:=.returning }) (cs:=cs) (fun h0=>by cases h0) rfl q4.marks q3
       obtain ⟨v',r1,r2⟩:=sH q4.tmps p3 hu2
       exact ⟨ρ1,v',w2,_,hst.trans p1,rfl,⟨rfl,rfl,rfl,fn,hf,r1⟩,q2.trans p2,p3,r2⟩
      ·cases e
     ·cases e
   ·cases e
  ·cases e
 ·cases e
theorem Ik {ρ:aY} {n:Nat}:∀ {ps:List Tmp} {args args':List Value} {t t':T Value} {tm:Array Value},uJ ps args n t=some t'→eQ ρ args args'→TR ρ n t tm →
  TR ρ n t' ((ps.zip args').foldl (fun tmps x=>tmps.setIfInBounds x.1 x.2) tm)∧args'.length=ps.length
 | [],[],_,t,t',tm,e,.nil,ht=>by cases e;exact ⟨ht,rfl⟩
 | d::ds,v::vs,_,t,t',tm,e,.cons (v':=v') hv hs,ht=>by
  simp only [uJ] at e
  split at e
  ·rename_i t1 e1
   have h1:TR ρ n t1 (tm.setIfInBounds d v'):=TR.put (a:={ tmps:=tm,defers:=[] }) ht e1 hv
   obtain ⟨p1,p2⟩:=Ik e hs h1
   exact ⟨p1,by simp [p2]⟩
  ·cases e
 | [],_::_,_,t,t',tm,e,_,ht=>by simp [uJ] at e
 | _::_,[],_,t,t',tm,e,_,ht=>by simp [uJ] at e
theorem NR (hI:iH P inv) (hD:fF P inv) {l:Nat} {args:List Value} {h h':H} {v:Value} (e:nX P inv l args h=some (v,h')):h.next≤h'.next ∧
  ∀ ρ w l' args',BR ρ l l'→eQ ρ args args'→HR ρ h w→gK ρ h.next h'.next→∃ fr0,QC P w args' fr0 (.yield l') ∧
   ∀ c cs,∃ ρ' v' w',Steps P (lone fr0 (c::cs) w) (lone (c.finish v') cs w')∧Stp ρ h w ρ' h' w'∧HR ρ' h' w'∧VR ρ' v v':=by
 unfold nX at e
 split at e
 ·rename_i st j f t n ps as bd d hg
  split at e
  ·rename_i t' hp
   split at e
   ·rename_i x hx
    obtain ⟨n1,h1⟩:=eH hI hD as _ x hx
    simp only at n1
    unfold YQ at e
    split at e
    ·rename_i j1 f1 t1 n1' ps1 as1 b1 d1 hx1 hg1 ht1 hm1
     split at e
     ·rename_i y hy
      obtain ⟨n2,h2⟩:=eH hI hD bd _ y hy
      simp only [Ur] at n2
      unfold VE at e
      split at e
      ·rename_i f2 t2 n2' ps2 as2 b2 d2 hg2 ht2 hm2
       rw [Nat.blt_eq] at ht1 ht2
       have hv:∃ st3 j3,h'=y.2.h.put l (.loop st3 j3 f2 t2 n2' ps2 as2 b2 d2):=by
        split at e<;>(cases e;exact ⟨_,_,rfl⟩)
       have hnx:h'.next=y.2.h.next:=by obtain ⟨_,_,rfl⟩:=hv;rfl
       refine ⟨by omega,fun ρ w l' args' hB ha hr hu=>?_⟩
       obtain ⟨k0,tm,d',q1,q2,q3,q4⟩:=Jz hr hg hB
       obtain ⟨p1,p2⟩:=Ik hp ha q3
       let b:Frame:={ (default:Frame) with fn:=f,kind:=.normal,roundOf:=some l' }
       have hzip:(ps.zip ⟨args'⟩).foldl (fun tmps (t,a)=>tmps.setIfInBounds t a) tm=(ps.toList.zip args').foldl (fun tmps x=>tmps.setIfInBounds x.1 x.2) tm:=by
        rw [←Array.foldl_toList]
        simp
       refine ⟨_,⟨_,q2,by simpa using p2,rfl⟩,fun c cs=>?_⟩
       have hfr:Frame.round l' f ((ps.zip ⟨args'⟩).foldl (fun tmps (t,a)=>tmps.setIfInBounds t a) tm) as bd .normal=b.atR { tmps:=(ps.toList.zip args').foldl (fun tmps x=>tmps.setIfInBounds x.1 x.2) tm,defers:=[] } [.code as,.beginRound,.code bd]:=by
        rw [←hzip]
        simp [Frame.round,Frame.atR,b]
       show ∃ ρ' v' w',Steps P (lone (Frame.round l' f ((ps.zip ⟨args'⟩).foldl (fun tmps (t,a)=>tmps.setIfInBounds t a) tm) as bd .normal) (c::cs) w) _∧_
       rw [hfr]
       obtain ⟨ρ1,a1,w1,s1,s2,s3,s4⟩:=h1 ρ b { tmps:=(ps.toList.zip args').foldl (fun tmps x=>tmps.setIfInBounds x.1 x.2) tm,defers:=[] } [.beginRound,.code bd] (c::cs) w ⟨rfl,rfl,hB,p1,trivial⟩ hr (hu.sub (Nat.le_refl _) (by omega))
       rw [hx1] at s1
       have hB1:=hB.mono s2.le
       obtain ⟨r,r1,r2,r3,r4,r5,r6,r7,r8,r9,r10⟩:=FB (st':=.busy) (j':=j1) s3 hg1 hB1 ht1
       have hbeg:=run_beginRound (P:=P) r1 r2
       have hrr:({ r with state:=.busy }:Loop)={ r with state:=.busy,pending:=j1 }:=by rw [←r3]
       rw [hrr] at hbeg
       have hstep:Steps P (lone (b.atR a1 [.beginRound,.code bd]) (c::cs) w1) _:=.one (stepR_beginRound (P:=P) (b:=b) rfl hbeg)
       obtain ⟨ρ2,a2,w2,u1,u2,u3,u4⟩:=h2 ρ1 b a1 [] (c::cs) _ ⟨s4.DT,s4.kind,s4.DJ,s4.tmps,by have:=s4.marks;rw [hm1] at this;exact this⟩ r10 ((hu.sub n1 (by rw [hnx];exact Nat.le_refl _)).step s2 (Nat.le_refl _))
       have hB2:=hB1.mono u2.le
       have hall:=(s2.trans r9).trans u2
       have fin:∀ (j:Option Code) (m:Machine),Steps P (lone (b.atR a1 [.code bd]) (c::cs) (w1.putObj l' (.loop { r with state:=.busy,pending:=j1 }))) m→h'=y.2.h.put l (.loop (if j.isNone then .ready else .done) j f2 t2 n2' ps2 as2 b2 d2)→v = .bool j.isNone →
         (∀ v' w',(Instr.endRound l' j).run P w2 = .ok v' w'→step P m = .next (lone (c.finish v') cs w')) →
         ∃ ρ' v' w',Steps P (lone (b.atR { tmps:=(ps.toList.zip args').foldl (fun tmps x=>tmps.setIfInBounds x.1 x.2) tm,defers:=[] } [.code as,.beginRound,.code bd]) (c::cs) w) (lone (c.finish v') cs w')∧Stp ρ h w ρ' h' w'∧HR ρ' h' w'∧VR ρ' v v':=fun j m hm hh hvv hlast=>by
        subst hh hvv
        obtain ⟨r',z1,z2,z3,z4,z5,z6,z7,z8,z9,z10⟩:=FB (st':=if j.isNone then .ready else .done) (j':=j) u3 hg2 hB2 ht2
        have hend:=run_endRound (P:=P) j z1
        exact ⟨ρ2,.bool j.isNone,_,Steps.trans s1 (hstep.trans (hm.trans (.one (hlast _ _ hend)))),hall.trans z9,z10,.same rfl⟩
       split at e
       ·rename_i hy1
        cases e
        rw [hy1] at u1
        exact fin none _ u1 rfl rfl fun v' w' hh=>stepR_round_end (b:=b) rfl rfl hh
       ·rename_i hy1
        cases e
        rw [hy1] at u1
        obtain ⟨k1,u1⟩:=u1
        exact fin (some .ret) _ u1 rfl rfl fun v' w' hh=>stepR_round_ret (b:=b) rfl rfl hh
       ·rename_i id hy1
        cases e
        rw [hy1] at u1
        obtain ⟨k1,u2',u3'⟩:=u1.2 rfl
        exact fin (some (.exit id)) _ u3' rfl rfl fun v' w' hh=>stepR_round_exit (b:=b) rfl rfl u2' hh
      ·cases e
     ·cases e
    ·cases e
   ·cases e
  ·cases e
 ·cases e
end Ev
end Go
end
end
section
section
namespace Go
namespace Ev
variable {P:Program}
def aV (P:Program) (f:FuncId) (args:List Value) (h:H) (v:Value) (h':H):Prop:=h.next≤h'.next∧∃ fn c,P.funcs[f]? = some fn∧fn.body=some c∧(fn.name == "runtime.NumGoroutine")=false ∧
  ∀ {ρ:aY} {args':List Value} {w:World},eQ ρ args args'→HR ρ h w→gK ρ h.next h'.next→∀ cs,∃ ρ' v' w' fr,Steps P (lone (Frame.enter P f ⟨args'⟩ .normal) cs w) (lone fr cs w')∧fr.fn=f∧fr.leaving P w' (.returned v') ∧
   Stp ρ h w ρ' h' w'∧HR ρ' h' w'∧VR ρ' v v'
def df (P:Program) (hk:FuncId→List Value→H→Option (Option (Value × H))):Prop:=∀ f args h v h',hk f args h=some (some (v,h'))→aV P f args h v h'
theorem BN {hk:FuncId→List Value→H→Option (Option (Value × H))} (hH:df P hk) (hD:∀ inv,iH P inv→fF P inv):∀ d,iH P (qO P hk d)
 | 0=>fun g args h v h' e=>by simp [qO] at e
 | d+1=>fun g args h v h' e=>by
  have ih:=BN hH hD d
  cases g with
  | func f=>
   have hF:aV P f args h v h':=by
    simp only [qO] at e
    split at e
    ·rename_i r hr
     subst e
     exact hH _ _ _ _ _ hr
    ·exact IB ih (hD _ ih) e
   obtain ⟨n1,fn,c,q1,q2,q3,q4⟩:=hF
   refine ⟨n1,fun ρ w g' args' hg ha hr hu=>?_⟩
   cases g' with
   | func f'=>
    obtain rfl:f=f':=hg
    refine ⟨_,⟨fn,c,q1,q2,q3,rfl⟩,fun c cs=>?_⟩
    obtain ⟨ρ',v',w',fr,s1,s2,s3,s4,s5,s6⟩:=q4 ha hr hu (c::cs)
    exact ⟨ρ',v',w',s1.trans (.one (step_leave_returned s3)),s4,s5,s6⟩
   | yield l=>exact hg.elim
   | method _=>exact hg.elim
   | methodOf _ _=>exact hg.elim
   | via _ _ _ _=>exact hg.elim
  | yield l=>
   simp only [qO] at e
   obtain ⟨n1,q⟩:=NR ih (hD _ ih) e
   refine ⟨n1,fun ρ w g' args' hg ha hr hu=>?_⟩
   cases g' with
   | yield l'=>exact q ρ w l' args' hg ha hr hu
   | func f'=>exact hg.elim
   | method _=>exact hg.elim
   | methodOf _ _=>exact hg.elim
   | via _ _ _ _=>exact hg.elim
  | method _=>simp [qO] at e
  | methodOf _ _=>simp [qO] at e
  | via _ _ _ _=>simp [qO] at e
theorem Sm {hk:FuncId→List Value→H→Option (Option (Value × H))} (hH:df P hk) (hD:∀ inv,iH P inv→fF P inv) {d:Nat} {f:FuncId} {args:List Value} {h h':H} {v:Value} (e:qO P hk d (.func f) args h=some (v,h')):aV P f args h v h':=by
 cases d with
 | zero=>simp [qO] at e
 | succ d=>
  simp only [qO] at e
  split at e
  ·rename_i r hr
   subst e
   exact hH _ _ _ _ _ hr
  ·have ih:=BN hH hD d
   exact IB ih (hD _ ih) e
theorem aV.calls {f:FuncId} {args args':List Value} {h h':H} {v:Value} {ρ:aY} {w:World} (hF:aV P f args h v h') (ha:eQ ρ args args') (hr:HR ρ h w) (hu:gK ρ h.next h'.next) :
  Calls P f ⟨args'⟩ w fun e w'=>∃ v' ρ',e = .returned v'∧Stp ρ h w ρ' h' w'∧HR ρ' h' w'∧VR ρ' v v':=fun cs=>by
 obtain ⟨_,fn,c,_,_,_,q⟩:=hF
 obtain ⟨ρ',v',w',fr,s1,s2,s3,s4⟩:=q ha hr hu cs
 exact ⟨.returned v',w',fr,⟨v',ρ',rfl,s4⟩,s1,s2,s3⟩
theorem aV.E5 {f:FuncId} {args:List Value} {h h':H} {v:Value} {fn:Func} {c:Code} (hn:h.next≤h'.next) (hf:P.funcs[f]? = some fn) (hb:fn.body=some c) (hname:(fn.name == "runtime.NumGoroutine")=false)
  (hc:∀ {ρ:aY} {args':List Value} {w:World},eQ ρ args args'→HR ρ h w→gK ρ h.next h'.next→Calls P f ⟨args'⟩ w fun e w'=>∃ v' ρ',e = .returned v'∧Stp ρ h w ρ' h' w'∧HR ρ' h' w'∧VR ρ' v v'):aV P f args h v h':=
 ⟨hn,fn,c,hf,hb,hname,fun {ρ args' w} ha hr hu cs=>by
  obtain ⟨e,w',fr,⟨v',ρ',rfl,s⟩,s1,s2,s3⟩:=hc ha hr hu cs
  exact ⟨ρ',v',w',fr,s1,s2,s3,s⟩⟩
end Ev
end Go
end
end
