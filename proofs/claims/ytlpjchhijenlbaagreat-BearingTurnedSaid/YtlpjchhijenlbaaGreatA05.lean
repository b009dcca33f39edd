/- Of the proof of BearingTurned: Ren12 Ren13 Ren14 -/
import Derived.Test.YtlpjchhijenlbaaGreatA04
set_option linter.unusedSectionVars false
set_option linter.unusedVariables false
set_option linter.unusedSimpArgs false
section
section
namespace Go
namespace Ren
variable [Fr]
variable {P:Program} {f:Nat→Nat} {K:Kd}
theorem nG:∀ (l:List FieldStep) (t:TypeId) (x:Option Value),ak P f K (fun a b=>match a,b with
  | .error r,.error s=>s=r
  | .ok p,.ok q=>q=(p.1,p.2.map (val f))
  | _,_=>False) (followBlind l t x) (followBlind l t (x.map (val f)))
 | [],t,x=>af rfl
 | s::rest,t,x=>by
  unfold followBlind
  refine ae (aB _) ?_
  rintro _ d ⟨rfl,_⟩
  cases d with
  | struct fields=>
   dsimp only
   cases fields[s.index]? with
   | none=>exact ah
   | some g=>
    dsimp only
    cases s.deref with
    | true=>
     cases x with
     | none=>exact af rfl
     | some v=>
      cases v with
      | pointer o=>
       cases o with
       | none=>simp only [Option.map_some,ay,Option.map_none];exact af rfl
       | some a=>
        simp only [Option.map_some,ay]
        exact nG rest g.type none
      | _=>exact ah
    | false=>
     cases x with
     | none=>exact nG rest g.type none
     | some v=>
      cases v with
      | agg cs=>
       simp only [Option.map_some,cO]
       refine ae (lC _ cs _) ?_
       rintro b _ rfl
       exact nG rest g.type (some b)
      | _=>exact ah
  | _=>exact ah
theorem EE:∀ (n:Nat) (t:TypeId) (x:Value) (name:String),ak P f K (fun a b=>b=a) (nilAhead n t x name) (nilAhead n t (val f x) name)
 | 0,_,_,_=>af rfl
 | n+1,t,x,name=>by
  unfold nilAhead
  refine ae (gQ t) ?_
  rintro _ i ⟨rfl,_⟩
  cases i.methods.find? (·.name==name) with
  | none=>exact ah
  | some m=>
   dsimp only
   refine ae (nG m.path.toList t (some x)) ?_
   intro a b hab
   cases a with
   | error r=>
    cases b with
    | error s=>simp only at hab;subst hab;exact af rfl
    | ok q=>simp only at hab
   | ok p=>
    cases b with
    | error s=>simp only at hab
    | ok q=>
     simp only at hab
     subst hab
     obtain ⟨u,y⟩:=p
     dsimp only
     cases m.func with
     | none=>
      cases y with
      | none=>exact af rfl
      | some v=>
       cases v with
       | iface t' v'=>simp only [Option.map_some,bJ];exact EE n t' v' name
       | nilIface=>simp only [Option.map_some,bU];exact af rfl
       | _=>exact ah
     | some fp=>
      obtain ⟨g,pr⟩:=fp
      cases pr with
      | true=>exact af rfl
      | false=>
       dsimp only
       refine ae (aB _) ?_
       rintro _ d ⟨rfl,_⟩
       cases d<;>first
        | exact af rfl
        | (cases y with
           | none=>exact af rfl
           | some v=>
            cases v with
            | pointer o=>cases o<;>(simp only [Option.map_some,ay,Option.map_none];exact af rfl)
            | _=>simp only [Option.map_some,dI,bV,bZ,bn,aS,aW,dC,eX,bP,aZ,bJ,bU,cO,bY];exact af rfl)
def J5 (S:FuncId→Prop):Fn→Prop
 | .yield _=>False
 | .func g | .via _ _ g _=>S g
 | _=>False
theorem Vk {S:FuncId→Prop} {g:Fn} (h:J5 S g) (hS:∀ x,S x→Fr.qL x=x) (f:Nat→Nat):fn f g=g:=by
 cases g with
 | yield l=>exact h.elim
 | func g=>simp only [fn,hS g h]
 | via t p g b=>simp only [fn,hS g h]
 | _=>exact h.elim
def Wn (P:Program) (s d:TypeId):Prop:=(∃ k,P.underlying s=some (.int k))∧∃ k,P.underlying d=some (.int k)
theorem Ri {s d:TypeId} (h:Wn P s d) (x:Value):ak P f K (aj f) (convert s d x) (convert s d (val f x)):=by
 obtain ⟨⟨k,h1⟩,k',h2⟩:=h
 unfold convert
 refine ae (aB _) ?_
 rintro _ d1 ⟨rfl,e1⟩
 refine ae (aB _) ?_
 rintro _ d2 ⟨rfl,e2⟩
 rw [h1] at e1;rw [h2] at e2
 obtain rfl:=Option.some.inj e1
 obtain rfl:=Option.some.inj e2
 cases x with
 | int q n=>simp only [bV];exact af (by simp [aj])
 | float q b=>
  simp only [bZ]
  show ak P f K (aj f) (Conv.floatToInt q b k') (Conv.floatToInt q b k')
  unfold Conv.floatToInt
  have any:ak P f K (aj f) (choose (.floatToInt q b k') >>= fun n=>pure (Value.int k' (k'.wrap n))) (choose (.floatToInt q b k') >>= fun n=>pure (Value.int k' (k'.wrap n))):=by
   refine ae (lD _) ?_
   rintro n _ rfl
   exact af (by simp [aj])
  dsimp only
  split
  ·exact bz (fun _=>af (by simp [aj])) (fun _=>any)
  ·exact any
 | pointer o=>cases o<;>exact az
 | _=>exact az
def gI (P:Program) (c:Call):Prop:=
 match c.callee with
 | .builtin b=>uw P b c.argTypes
 | .value _=>True
 | .invoke ..=>False
def Yp (P:Program) (S:FuncId→Prop):Op→Prop
 | .move _ | .assign _ | .pick .. | .alloc _ | .box .. | .build .. | .load .. | .store .. | .nilCheck _ | .unOp .. | .makeInterface .. | .makeSlice .. | .slice ..
 | .fieldAddr .. | .field .. | .indexAddr .. | .index .. | .extract .. | .panic _ | .buildSlice .. | .makeMap .. | .entryStore .. | .range .. | .next .. | .entry _=>True
 | .lookup t _ _ _ | .mapUpdate t _ _ _ | .insert t _ _ _ | .mapEntry t _ _=>Nl P t
 | .binOp op t _ _ _=>Wp P op t
 | .convert s d _=>Wn P s d
 | .makeFunc g _ _=>J5 S g
 | .call c=>gI P c
 | _=>False
theorem NU (ρ:Operand→Value) (c:Call) (hc:gI P c) (t:TypeId):ak P f K (fun a b=>b=deferred f a∧resolve ρ c t=pure a) (resolve ρ c t) (resolve (fun x=>val f (ρ x)) c t):=by
 unfold resolve
 have e:c.args.map (fun x=>val f (ρ x))=vals f (c.args.map ρ):=by simp [vals]
 dsimp only
 rw [e]
 cases hcal:c.callee with
 | builtin b=>exact af ⟨by simp [deferred,target],rfl⟩
 | invoke recv name=>unfold gI at hc;rw [hcal] at hc;exact hc.elim
 | value g=>
  dsimp only
  cases ρ g with
  | func g a b=>simp only [bP,Deferred.ofValue,← jI];exact af ⟨rfl,rfl⟩
  | nilFunc=>simp only [aZ,Deferred.ofValue];exact af ⟨rfl,rfl⟩
  | _=>exact ah
def YU (P:Program):Target→Prop
 | .builtin b ts _ _=>uw P b ts
 | .collected _ | .coroexit _=>False
 | _=>True
theorem Eb {ρ:Operand→Value} {c:Call} {t:TypeId} {d:Deferred} (hc:gI P c) (h:resolve ρ c t=pure d):YU P d.target:=by
 unfold resolve at h
 unfold gI at hc
 dsimp only at h
 cases hcal:c.callee with
 | builtin b=>rw [hcal] at h hc;cases h;exact hc
 | invoke r n=>rw [hcal] at hc;exact hc.elim
 | value g=>
  rw [hcal] at h
  dsimp only at h
  cases hg:ρ g with
  | func g a b=>rw [hg] at h;cases h;trivial
  | nilFunc=>rw [hg] at h;cases h;trivial
  | _=>rw [hg] at h;cases h
def vk:Value→Prop
 | .func (.method n) _ _ | .func (.methodOf _ n) _ _=>Fr.mid n=n
 | _=>True
theorem Uj {S:FuncId→Prop} (hf:rU f) (hx:Fix P f) (hφ:∀ x,S x→Fr.qL x=x) (hz:aN P) (ρ:Operand→Value) (o:Oper) (hv:∀ x∈o.op.operands,vk (ρ x)) (ho:Yp P S o.op)
  (hi:∀ c d,o.op = .call c→resolve ρ c o.type=pure d→YY P K d.target):ak P f K (iY f K) (execOp ρ o) (execOp (fun x=>val f (ρ x)) o):=by
 unfold execOp
 cases hop:o.op<;>rw [hop] at ho<;>first | exact ho.elim | skip
 all_goals dsimp only
 case move x=>exact af ⟨rfl,rfl,trivial⟩
 case assign x=>exact af ⟨rfl,rfl,trivial⟩
 case pick c a b=>
  refine ae (EK (ρ c)) ?_
  rintro _ b rfl
  exact af ⟨by simp only [next];split<;>rfl,rfl,trivial⟩
 case alloc t=>exact dm (Xr hz t _)
 case box t x=>exact dm (r_box t _)
 case build t ps=>exact dm (Xo hz t _ _ (by simp [Function.comp_def]))
 case load t a=>exact dm (Ug t _)
 case store t a x=>exact Bv (Q4 t _ _)
 case unOp op t x=>exact dm (Xh op _)
 case makeInterface t x=>exact dm (Dv t _)
 case makeSlice t l c=>exact dm (La hz t _ _)
 case slice t x lo hi mx=>
  refine dm ?_
  have:=Q5 (P:=P) (f:=f) (K:=K) t (ρ x) (lo.map ρ) (hi.map ρ) (mx.map ρ)
  simpa [Option.map_map,Function.comp_def] using this
 case fieldAddr t x n=>exact dm (Q9 t _ n)
 case field t x n=>exact dm (Xm t _ n)
 case indexAddr t x i=>exact dm (Q8 t _ _)
 case index t x i=>exact dm (Xl t _ _)
 case extract x n=>exact dm (Rf _ n)
 case panic x=>exact dm (Gh _).rel
 case buildSlice t len ps=>exact dm (Jh hz t len _ _ (by simp [Function.comp_def]))
 case makeMap t r=>
  refine dm ?_
  have:=Q7 (P:=P) (f:=f) (K:=K) t (r.map ρ)
  simpa [Option.map_map,Function.comp_def] using this
 case lookup t x i ok=>exact dm (Uf hz hf hx ho _ _ _)
 case mapUpdate t m k x=>exact Bv (CE hf hx ho _ _ _)
 case insert t m k x=>exact Bv (CE hf hx ho _ _ _)
 case mapEntry t m k=>exact dm (NW hz hf hx ho _ _)
 case entryStore t m s x=>exact Bv (Jg t _ _ _)
 case range t x=>exact dm (Xk t _)
 case next it b=>exact dm (Zn _ _ _)
 case entry it=>exact dm (Xn _)
 case convert s d x=>exact dm (Ri ho _)
 case makeFunc g a b=>
  refine dm ?_
  have:=NY (P:=P) (f:=f) (K:=K) g (a.map ρ) (b.map ρ)
  rw [Vk ho hφ] at this
  simpa [vals,Function.comp_def] using this
 case binOp op t x y yt=>
  refine dm ?_
  refine ae (Rh op t x y _ _ ho) ?_
  rintro _ _ _
  exact Xp hf hx op t _ _ ho
 case call c=>
  refine ae (NU ρ c ho _) ?_
  rintro d _ ⟨rfl,hd⟩
  exact sQ hz (hi c d hop hd) _
 case nilCheck x=>
  have hvx:=hv x (by rw [hop];simp [Op.operands])
  cases hρ:ρ x with
  | pointer o=>
   cases o with
   | none=>exact dK _
   | some a=>simp only [ay,Option.map_some];exact af ⟨by simp [next],rfl,trivial⟩
  | nilIface=>exact dK _
  | nilFunc=>exact dK _
  | func g a b=>
   cases g with
   | method name=>
    rw [hρ] at hvx
    simp only [bP,fn,fU,show Fr.mid name=name from hvx]
    cases h0:a[0]? with
    | none=>simp only [Option.map_none];exact af ⟨by simp [next,fn,show Fr.mid name=name from hvx],rfl,trivial⟩
    | some y=>
     cases y with
     | nilIface=>exact dK _
     | iface t w=>
      simp only [Option.map_some,bJ]
      refine iw ?_
      refine ae (EE _ t w name) ?_
      rintro _ r rfl
      refine bz (fun _=>Dies.rel (.bind (bf _) _)) (fun _=>af ⟨by simp [next,fn,show Fr.mid name=name from hvx],rfl,trivial⟩)
     | _=>simp only [Option.map_some,dI,bV,bZ,bn,aS,ay,aW,dC,eX,bP,aZ,cO,bY];exact af ⟨by simp [next,fn,show Fr.mid name=name from hvx],rfl,trivial⟩
   | _=>simp only [bP,fn];exact af ⟨by simp [next,fn],rfl,trivial⟩
  | _=>simp only [dI,bV,bZ,bn,aS,aW,dC,eX,bJ,cO,bY];exact af ⟨by simp [next],rfl,trivial⟩
end Ren
end Go
end
end
section
section
namespace Go
namespace Ren
variable [Fr]
variable {P:Program} {f:Nat→Nat} {S:FuncId→Prop}
def bG (P:Program) (S:FuncId→Prop):Operand→Prop
 | .const v=>aQ v=true
 | .global g=>g<P.globals.size
 | .func g=>S g
 | _=>True
def vw (P:Program) (S:FuncId→Prop) (o:Oper):Prop:=Yp P S o.op∧∀ x∈o.op.operands,bG P S x
def gZ (P:Program) (S:FuncId→Prop):Code→Prop
 | .region _ ops _=>∀ o∈ops,vw P S o
 | .seq a b=>gZ P S a∧gZ P S b
 | .cond c a b=>bG P S c∧gZ P S a∧gZ P S b
 | .block _ a | .loop a | .scope a=>gZ P S a
 | .rangeFunc g _ a b=>bG P S g∧gZ P S a∧gZ P S b
 | _=>True
class gm where
 sp:Oper→Prop
 nm:FuncId→Prop
instance (priority:=low) Ot:gm:=⟨fun _=>False,fun _=>False⟩
def V7 [gm] (P:Program) (S:FuncId→Prop) (o:Oper):Prop:=vw P S o∨gm.sp o
def lS [gm] (P:Program) (S:FuncId→Prop):Code→Prop
 | .region _ ops _=>∀ o∈ops,V7 P S o
 | .seq a b=>lS P S a∧lS P S b
 | .cond c a b=>bG P S c∧lS P S a∧lS P S b
 | .block _ a | .loop a | .scope a=>lS P S a
 | .rangeFunc g _ a b=>bG P S g∧gZ P S a∧gZ P S b
 | _=>True
theorem gZ.loose [gm] {c:Code} (h:gZ P S c):lS P S c:=by
 induction c with
 | region id ops d=>exact fun o ho=>.inl (h o ho)
 | seq a b iha ihb=>exact ⟨iha h.1,ihb h.2⟩
 | cond c a b iha ihb=>exact ⟨h.1,iha h.2.1,ihb h.2.2⟩
 | block id a ih=>exact ih h
 | loop a ih=>exact ih h
 | scope a ih=>exact ih h
 | rangeFunc g ps a b iha ihb=>exact h
 | _=>exact trivial
def item (f:Nat→Nat):Item→Item
 | .inRangeFunc l=>.inRangeFunc (f l)
 | .endRangeFunc l=>.endRangeFunc (f l)
 | .call d w r s=>.call (deferred f d) w r (vals f s)
 | .extern r as=>.extern r (vals f as)
 | x=>x
def Jl (f:Nat→Nat) (e:PanicEntry):PanicEntry:={ e with v:=val f e.v }
def mode (f:Nat→Nat):FrameMode→FrameMode
 | .panicking c=>.panicking (c.map (Jl f))
 | x=>x
def frame (f:Nat→Nat) (fr:Frame):Frame:=
 { fn:=fr.fn,tmps:=vals f fr.tmps,todo:=fr.todo.map (item f),defers:=fr.defers.map (deferred f),mode:=mode f fr.mode,kind:=fr.kind,roundOf:=fr.roundOf.map f }
def yB (f:Nat→Nat) (g:Goroutine):Goroutine:=
 { frame:=frame f g.frame,callers:=g.callers.map (frame f),status:=g.status,dying:=g.dying,offers:=g.offers }
def dL [gm] (P:Program) (S:FuncId→Prop):Item→Prop
 | .code c | .inLoop c | .inScope c=>lS P S c
 | .inRegion ops _=>∀ o∈ops,V7 P S o
 | .call .. | .extern ..=>False
 | _=>True
def DY [gm] (P:Program) (S:FuncId→Prop) (fr:Frame):Prop:=∀ i∈fr.todo,dL P S i
def uu [gm] (fr:Frame):Prop:=fr.mode = .run→∀ ops i rest k o,fr.todo = .inRegion ops (i::rest)::k→ops[i]? = some o→¬ gm.sp o
theorem UB (fr:Frame):@uu Ot fr:=fun _ _ _ _ _ _ _ _ h=>h
variable [gm]
theorem fK (f:Nat→Nat):val f undef=undef:=by simp [undef,vals]
theorem kR (f:Nat→Nat) (tmps:Array Value) (t:Nat):(vals f tmps).getD t undef=val f (tmps.getD t undef):=by
 simp only [Array.getD_eq_getD_getElem?,fU]
 cases tmps[t]? with
 | none=>simp [fK]
 | some v=>rfl
theorem fG (hx:Fix P f) (hφ:∀ x,S x→Fr.qL x=x) (fr:Frame) {x:Operand} (h:bG P S x):(frame f fr).eval x=val f (fr.eval x):=by
 cases x with
 | tmp t=>exact kR f fr.tmps t
 | const v=>exact (aH h f).symm
 | global g=>simp [Frame.eval,addr,hx g h]
 | func g=>simp [Frame.eval,fn,vals,hφ g h]
theorem NC (f:Nat→Nat) (tmps:Array Value) (d:Nat) (v:Value):vals f (tmps.setIfInBounds d v)=(vals f tmps).setIfInBounds d (val f v):=zt f tmps d v
theorem bg (fr:Frame) (v:Value) (hok:DY P S fr):(frame f fr).finish (val f v)=frame f (fr.finish v):=by
 unfold Frame.finish
 cases hT:fr.todo with
 | nil=>simp [frame,hT]
 | cons i k=>
  have hi:dL P S i:=hok i (by rw [hT];exact List.mem_cons_self ..)
  cases i with
  | inRegion ops todo=>
   cases todo with
   | nil=>simp [frame,hT,item]
   | cons j rest=>
    simp only [frame,hT,List.map_cons,item]
    cases (ops[j]?).bind (·.dst)<;>simp [NC]
  | call d w r s=>exact hi.elim
  | extern r as=>exact hi.elim
  | _=>simp [frame,hT,item]
theorem UK {ρ ρ':Operand→Value} {xs:Array Operand} (h:∀ x∈xs,ρ' x=ρ x):xs.map ρ'=xs.map ρ:=Array.map_congr_left h
theorem resolve_congr {ρ ρ':Operand→Value} (c:Call) (t:TypeId) (h:∀ x∈c.operands,ρ' x=ρ x):resolve ρ' c t=resolve ρ c t:=by
 have ha:c.args.map ρ'=c.args.map ρ:=UK fun x hx=>h x (by unfold Call.operands;exact Array.mem_append.2 (.inr hx))
 unfold resolve
 dsimp only
 rw [ha]
 cases hc:c.callee with
 | builtin b=>rfl
 | invoke r n=>dsimp only;rw [h r (by unfold Call.operands;rw [hc];simp)]
 | value g=>dsimp only;rw [h g (by unfold Call.operands;rw [hc];simp)]
theorem execOp_congr {ρ ρ':Operand→Value} (o:Oper) (ho:Yp P S o.op) (h:∀ x∈o.op.operands,ρ' x=ρ x):execOp ρ' o=execOp ρ o:=by
 unfold execOp
 cases hop:o.op<;>rw [hop] at ho h<;>first | exact ho.elim | skip
 all_goals simp only [Op.operands] at h
 all_goals dsimp only
 case build t ps=>
  have:(ps.map fun x=>(x.1,ρ' x.2))=ps.map fun x=>(x.1,ρ x.2):=Array.map_congr_left fun x hx=>by
   rw [h x.2 (by simp;exact ⟨x.1,by simpa using hx⟩)]
  rw [this]
 case slice t x lo hi mx=>
  rw [h x (by simp)]
  have e:∀ (o:Option Operand),(∀ y,o=some y→ρ' y=ρ y)→o.map ρ'=o.map ρ:=fun o ho=>by cases o<;>simp [ho]
  rw [e lo (fun y hy=>h y (by subst hy;simp)),e hi (fun y hy=>h y (by subst hy;simp)),e mx (fun y hy=>h y (by subst hy;simp))]
 case makeFunc g a b=>rw [UK (fun x hx=>h x (by simp [hx])),UK (fun x hx=>h x (by simp [hx]))]
 case call c=>rw [resolve_congr c _ h]
 case buildSlice t n ps=>
  have:(ps.map fun x=>(x.1,ρ' x.2))=ps.map fun x=>(x.1,ρ x.2):=Array.map_congr_left fun x hx=>by
   rw [h x.2 (by simp;exact ⟨x.1,by simpa using hx⟩)]
  rw [this]
 case makeMap t r=>
  have e:r.map ρ'=r.map ρ:=by cases r<;>simp at h ⊢;exact h
  rw [e]
 all_goals (try rfl)
 all_goals (simp at h;simp only [h])
end Ren
end Go
end
end
section
section
namespace Go
namespace Ren
variable [Fr] [gm]
variable {P:Program} {f:Nat→Nat} {S:FuncId→Prop}
theorem iO (P:Program) (g:FuncId) (f:Nat→Nat) (es:Array Event):seen P g (es.map (event f))=(seen P g es).map (event f):=by
 unfold seen
 dsimp only
 rw [←Array.foldl_toList,← Array.foldl_toList,Array.toList_map]
 generalize (P.funcs[g]?).any (·.norace)=q0
 have key:∀ (l:List Event) (q:Bool) (kept:Array Event),
   (l.map (event f)).foldl (fun (x:Bool × Array Event) e=>match e.loc with | .mark (.extern h)=>((P.funcs[h]?).any (·.norace),x.2) | _=>(x.1,if x.1 && !e.sync then x.2 else x.2.push e)) (q,kept.map (event f)) =
   ((l.foldl (fun (x:Bool × Array Event) e=>match e.loc with | .mark (.extern h)=>((P.funcs[h]?).any (·.norace),x.2) | _=>(x.1,if x.1 && !e.sync then x.2 else x.2.push e)) (q,kept)).1,
    (l.foldl (fun (x:Bool × Array Event) e=>match e.loc with | .mark (.extern h)=>((P.funcs[h]?).any (·.norace),x.2) | _=>(x.1,if x.1 && !e.sync then x.2 else x.2.push e)) (q,kept)).2.map (event f)):=by
  intro l
  induction l with
  | nil=>intro q kept;rfl
  | cons e l ih=>
   intro q kept
   simp only [List.map_cons,List.foldl_cons]
   obtain ⟨lc,wr,sy⟩:=e
   have fin:∀ e:Event,
     (l.map (event f)).foldl (fun (x:Bool × Array Event) e=>match e.loc with | .mark (.extern h)=>((P.funcs[h]?).any (·.norace),x.2) | _=>(x.1,if x.1 && !e.sync then x.2 else x.2.push e)) (q,if q && !e.sync then kept.map (event f) else (kept.map (event f)).push (event f e)) =
     ((l.foldl (fun (x:Bool × Array Event) e=>match e.loc with | .mark (.extern h)=>((P.funcs[h]?).any (·.norace),x.2) | _=>(x.1,if x.1 && !e.sync then x.2 else x.2.push e)) (q,if q && !e.sync then kept else kept.push e)).1,
      (l.foldl (fun (x:Bool × Array Event) e=>match e.loc with | .mark (.extern h)=>((P.funcs[h]?).any (·.norace),x.2) | _=>(x.1,if x.1 && !e.sync then x.2 else x.2.push e)) (q,if q && !e.sync then kept else kept.push e)).2.map (event f)):=fun e=>by
    cases hb:(q && !e.sync) with
    | true=>exact ih q kept
    | false=>
     have:=ih q (kept.push e)
     rw [Array.map_push] at this
     exact this
   cases lc with
   | mark m=>
    cases m with
    | extern h=>exact ih _ _
    | acquire a=>exact fin ⟨.mark (.acquire a),wr,sy⟩
    | release a=>exact fin ⟨.mark (.release a),wr,sy⟩
    | releaseMerge a=>exact fin ⟨.mark (.releaseMerge a),wr,sy⟩
    | disable=>exact fin ⟨.mark .disable,wr,sy⟩
    | enable=>exact fin ⟨.mark .enable,wr,sy⟩
    | read a=>exact fin ⟨.mark (.read a),wr,sy⟩
    | write a=>exact fin ⟨.mark (.write a),wr,sy⟩
    | noRoom=>exact fin ⟨.mark .noRoom,wr,sy⟩
   | cell a=>exact fin ⟨.cell a,wr,sy⟩
   | obj r=>exact fin ⟨.obj r,wr,sy⟩
   | output=>exact fin ⟨.output,wr,sy⟩
   | goroutines=>exact fin ⟨.goroutines,wr,sy⟩
 have:=key es.toList q0 #[]
 simp only [Array.map_empty] at this
 exact congrArg Prod.snd this
theorem xe (f:Nat→Nat) (id:Nat):∀ (k:List Item),exitTo id (k.map (item f))=(exitTo id k).map (·.map (item f))
 | []=>rfl
 | i::k=>by
  cases i with
  | inBlock id'=>
   simp only [List.map_cons,item,exitTo]
   split
   ·rfl
   ·exact xe f id k
  | _=>simp only [List.map_cons,item,exitTo];exact xe f id k
theorem wZ (f:Nat→Nat) (l:Nat):∀ (k:List Item),gotoIn l (k.map (item f))=(gotoIn l k).map (·.map (item f))
 | []=>rfl
 | i::k=>by
  cases i with
  | inScope body=>
   simp only [List.map_cons,item,gotoIn]
   cases findLabel body l with
   | none=>exact wZ f l k
   | some rest=>rfl
  | _=>simp only [List.map_cons,item,gotoIn];exact wZ f l k
theorem dM (f:Nat→Nat) (ops:Array Oper) (tmps:Array Value):yielded ops (vals f tmps)=yielded ops tmps:=by
 funext j
 unfold yielded
 cases (ops[j]?).bind (·.dst) with
 | none=>rfl
 | some d=>
  simp only [Option.bind_some,fU]
  cases tmps[d]? with
  | none=>rfl
  | some v=>cases v<;>simp
theorem yf {id:Nat}:∀ {k k':List Item},(∀ i∈k,dL P S i)→exitTo id k=some k'→∀ i∈k',dL P S i
 | [],_,_,h=>by cases h
 | i::k,k',hk,h=>by
  cases i with
  | inBlock id'=>
   simp only [exitTo] at h
   split at h
   ·obtain rfl:=Option.some.inj h;exact fun i hi=>hk i (List.mem_cons_of_mem _ hi)
   ·exact yf (fun i hi=>hk i (List.mem_cons_of_mem _ hi)) h
  | _=>exact yf (fun i hi=>hk i (List.mem_cons_of_mem _ hi)) h
theorem JK {l:Nat}:∀ {c c':Code},lS P S c→findLabel c l=some c'→lS P S c':=by
 intro c
 induction c with
 | seq a b iha ihb=>
  intro c' hc h
  simp only [findLabel] at h
  split at h
  ·rename_i rest hr
   obtain rfl:=Option.some.inj h
   exact ⟨iha hc.1 hr,hc.2⟩
  ·exact ihb hc.2 h
 | label l'=>
  intro c' hc h
  simp only [findLabel] at h
  split at h
  ·obtain rfl:=Option.some.inj h;trivial
  ·cases h
 | _=>intro c' hc h;cases h
theorem x9 {l:Nat}:∀ {k k':List Item},(∀ i∈k,dL P S i)→gotoIn l k=some k'→∀ i∈k',dL P S i
 | [],_,_,h=>by cases h
 | i::k,k',hk,h=>by
  have hk':∀ i∈k,dL P S i:=fun i hi=>hk i (List.mem_cons_of_mem _ hi)
  cases i with
  | inScope body=>
   have hb:lS P S body:=hk _ (List.mem_cons_self ..)
   simp only [gotoIn] at h
   split at h
   ·rename_i rest hr
    obtain rfl:=Option.some.inj h
    intro i hi
    rcases List.mem_cons.1 hi with rfl | hi
    ·exact JK hb hr
    ·rcases List.mem_cons.1 hi with rfl | hi
     ·exact hb
     ·exact hk' i hi
   ·exact x9 hk' h
  | _=>exact x9 hk' h
end Ren
end Go
end
end
