import Derived.Laws.Sem
import Derived.Test.YtjilljfmaknihaaGreatA03
set_option linter.all false
namespace Go.Ren
section
variable[Mps][Fr][Ext]{P:aH}{f:Nat->Nat}{K:Kd}
theorem Kw{α β:Type}(g:α->Sem β)(h:∀a,aO P f K (fun x y=>y=x) (g a) (g a)):∀l:List α,aO P f K (fun x y=>y=x) (l.mapM g) (l.mapM g)
|[]=>by simp only[List.mapM_nil];exact ak rfl
|a::l=>by simp only[Xk];refine ai (h a) ?_;rintro _ x rfl;refine ai (Kw g h l) ?_;rintro _ xs rfl;exact ak rfl
theorem VK{α β:Type}(g:α->Sem β)(h:∀a,aO P f K (fun x y=>y=x) (g a) (g a))(as:Array α):aO P f K (fun x y=>y=x) (as.mapM g) (as.mapM g):=by rw[Xj,aeW];refine ai (Kw g h as.toList) ?_;rintro _ x rfl;exact ak rfl
theorem En(f:Nat->Nat)(place:Nat->aB (Nat×Nat)):∀(ps:List (Nat×ae)) (cells:Array ae),Instr.fill place (vals f cells) (ps.map fun x=>(x.1,val f x.2))=(Instr.fill place cells ps).map (vals f)
|[],cells=>rfl
|(i,v)::rest,cells=>by
 simp only[fU,Instr.fill];cases place i with
 |none=>rfl
 |some x=>
  have⟨off,size⟩:=x;simp only[Ph,zi];split
  .rfl
  rw[Ah];have key:∀(l:List (ae×Nat)) (c:Array ae),(l.map fun x=>(val f x.1,x.2)).foldl (fun cs x=>cs.setIfInBounds (off+x.2) x.1) (vals f c)=vals f (l.foldl (fun cs x=>cs.setIfInBounds (off+x.2) x.1) c):=by
   intro l;induction l with
   |nil=>intro c;rfl
   |cons a l b=>intro c;simp only[fU,List.foldl_cons,<-GK];exact b _
  have e:(vals f v.cells).zipIdx=v.cells.zipIdx.map fun x=>(val f x.1,x.2):=by refine Array.ext (by simp) fun i h1 h2=>?_;simp[vals]
  have d:(vals f v.cells).zipIdx.foldl (fun cs x=>cs.setIfInBounds (off+x.2) x.1) (vals f cells)=vals f (v.cells.zipIdx.foldl (fun cs x=>cs.setIfInBounds (off+x.2) x.1) cells):=by rw[e,<-EW,<-EW,DI];exact key _ _
  have:=En f place rest (v.cells.zipIdx.foldl (fun cs x=>cs.setIfInBounds (off+x.2) x.1) cells);rw[<-d] at this;exact this
theorem afS(e:bz P)(t)(ps a)(hp:a=ps.map fun x=>(x.1,val f x.2)):aO P f K (aJ f) (Instr.build t ps) (Instr.build t a):=by
 subst hp;unfold Instr.build;refine ai (kX e t) ?_;rintro _ z ⟨rfl,hc⟩;have b:=MB hc f;refine ai (aW t) ?_;rintro _ d ⟨rfl,_⟩;cases d with
 |struct fields=>
  refine ai (VK _ (fun g=>?_) fields) ?_
  .refine ai (iD _) ?_;rintro _ n ⟨rfl,_⟩;exact ak rfl
  rintro _ places rfl;have:=En f (places[·]?) ps.toList z.cells;rw[b] at this;simp[DI];rw[this];cases Instr.fill _ z.cells ps.toList with
  |none=>exact aF
  |some c=>exact ak (by simp[aJ])
 |array n elem=>
  refine ai (iD _) ?_;rintro _ n ⟨rfl,_⟩;have:=En f (fun i=>some (i*n,n)) ps.toList z.cells;rw[b] at this;simp[DI];rw[this];cases Instr.fill (fun i=>some _) z.cells ps.toList with
  |none=>exact aF
  |some c=>exact ak (by simp[aJ])
 |_=>exact aF
theorem RU(hf:yZ f)(a b):(f a==f b)=(a==b):=by rw[Ld,BV,BV];exact⟨hf a b,fun e=>by rw[e]⟩
theorem PD(hf:yZ f)(a b):(addr f a==addr f b)=(a==b):=by rw[Ld,BV,BV];refine⟨fun e=>?_,fun e=>by rw[e]⟩;cases a;cases b;simp[addr,Addr.mk.injEq] at e⊢;exact⟨hf _ _ e.1,e.2⟩
theorem TC(hf:yZ f)(a b:aB Nat):(a.map f==b.map f)=(a==b):=by rw[Ld,BV,BV];refine⟨fun e=>?_,fun e=>by rw[e]⟩;cases a<;>cases b<;>simp[Option.map_some,Option.map_none,kG,reduceCtorEq] at e⊢;exact hf _ _ e
inductive SC (P:aH):aZ->Prop
 |flat {t:aZ} {d:TypeDesc} (h:P.underlying t=some d) (hd:match d with|.bool|.int _|.float _|.complex _|.string|.chan .. | .slice _|.map .. | .func ..=>True|_=>False):SC P t
 |struct {t:aZ} {fs:Array Field} (h:P.underlying t=some (.struct fs)) (hs:∀g∈fs,SC P g.type):SC P t
 |array {t:aZ} {n:Nat} {e:aZ} (h:P.underlying t=some (.array n e)) (hs:SC P e):SC P t
theorem SC.inv{t d}(h:SC P t)(hd:P.underlying t=some d):match d with
  |.bool|.int _|.float _|.complex _|.string|.chan .. | .slice _|.map .. | .func ..=>True
  |.struct fs=>∀g∈fs,SC P g.type
  |.array _ e=>SC P e
  |_=>False:=by
 cases h with
 |flat h a=>rw[h] at hd;obtain rfl:=aN hd;split at a<;>first|trivial|cases a
 |struct h hs=>rw[h] at hd;obtain rfl:=aN hd;exact hs
 |array h hs=>rw[h] at hd;obtain rfl:=aN hd;exact hs
theorem rC{α β:Type}{R:β->β->Prop}(g g':α->β->Sem (ForInStep β)) :
 ∀(l:List α),(∀a∈l,∀x y,R x y->aO P f K (fun s t=>match s,t with|.done x,.done y=>R x y|.yield x,.yield y=>R x y|_,_=>False) (g a x) (g' a y))->∀(x y:β),R x y->aO P f K R (forIn l x g) (forIn l y g')
|[],_,x,y,hr=>by simp only[List.forIn_nil];exact ak hr
|a::l,h,x,y,hr=>by
 simp only[List.forIn_cons];refine ai (h a (fZ ..) x y hr) ?_;intro s t hst;cases s<;>cases t<;>simp only at hst
 .exact ak hst
 exact rC g g' l (fun b hb=>h b (jy _ hb)) _ _ hst
theorem Jc(hf:yZ f)(hx:Fix P f):∀(d:Nat) (t:aZ) (x y:ae),SC P t->aO P f K (fun a b=>b=a) (Op.equalIn d t x y) (Op.equalIn d t (val f x) (val f y))
|0,t,x,y,_=>aS
|d+1,t,x,y,ht=>by
 unfold Op.equalIn;refine ai (aW t) ?_;rintro _ D ⟨rfl,hD⟩;split
 .simp only[dY];exact ak rfl
 .simp only[dK];exact dV (fun _=>ak rfl) (fun _=>aF)
 .simp only[dK,aK,Option.map_some];exact ak rfl
 .simp only[dK,aK,Option.map_some];exact ak rfl
 .simp only[aK,Option.map_some];refine ai (jZ _) ?_;rintro⟨a,l⟩ _ rfl;refine ai (jZ _) ?_;rintro⟨b,l'⟩ _ rfl;dsimp only;refine jY ?_;have h1:((addr f a).block==(addr f b).block)=(a.block==b.block):=RU hf _ _;have h2:decide ((addr f a).block<P.globals.size)=decide (a.block<P.globals.size):=Sj.2 (Fix.lt hf hx _);rw[h1,h2];refine dV (fun _=>?_) (fun _=>?_)
  .refine ai (wF _) ?_;rintro _ m rfl;refine ai (wF _) ?_;rintro _ n rfl;exact ak rfl
  refine ai (jM t) ?_;rintro _ i ⟨rfl,_⟩;split
  .rw[PD hf];exact dV (fun _=>ak rfl) (fun _=>aS)
  exact aS
 .exact aS
 .exact aS
 .simp only[dP];exact dV (fun _=>ak rfl) (fun _=>aF)
 .simp only[dw];exact dV (fun _=>ak rfl) (fun _=>aF)
 .simp only[bV];exact ak rfl
 .exact(ht.inv hD).elim
 .exact(ht.inv hD).elim
 .exact(ht.inv hD).elim
 .exact(ht.inv hD).elim
 .simp only[gm,TC hf];exact ak rfl
 .exact(ht.inv hD).elim
 .exact(ht.inv hD).elim
 .exact(ht.inv hD).elim
 .exact(ht.inv hD).elim
 .rename_i _ _ fs xs h;simp only[dG];refine jY ?_;refine dV (fun _=>Dies.rel ((dM _).bind _)) (fun _=>?_);simp only[<-aav];refine ai (Q:=fun a b=>b=a) (rC _ _ fs.toList (fun g hg x y c=>?_) _ _ rfl) ?_
  .subst c;refine dV (fun _=>?_) (fun _=>?_)
   .refine ai (qi _ _ _) ?_;rintro p _ rfl;refine ai (qi _ _ _) ?_;rintro q _ rfl;refine ai (Jc hf hx d g.type p q (ht.inv hD g (uz.1 hg))) ?_;rintro _ b rfl;refine dV (fun _=>ak ?_) (fun _=>ak ?_)<;>trivial
   exact ak (by trivial)
  rintro _ s rfl;split<;>exact ak rfl
 .rename_i _ _ len elem xs h;simp only[dG];refine ai (iD _) ?_;rintro _ n ⟨rfl,_⟩;simp only[Zi];refine ai (Q:=fun a b=>b=a) (rC _ _ _ (fun i _ x y c=>?_) _ _ rfl) ?_
  .subst c;refine ai (qi _ _ _) ?_;rintro p _ rfl;refine ai (qi _ _ _) ?_;rintro q _ rfl;refine ai (Jc hf hx d elem p q (ht.inv hD)) ?_;rintro _ b rfl;refine dV (fun _=>ak ?_) (fun _=>ak ?_)<;>trivial
  rintro _ s rfl;split<;>exact ak rfl
 .simp only[bI,Option.map_none];exact ak (by simp)
 .rename_i e n1 c1 m1 d1 _;cases e with
  |none=>exfalso;simp_all
  |some e=>simp only[bI,Option.map_none,Option.map_some];exact ak rfl
 .simp only[eU,Option.map_none];exact ak (by simp)
 .rename_i e _;cases e with
  |none=>exfalso;simp_all
  |some e=>simp only[eU,Option.map_none,Option.map_some];exact ak rfl
 .simp only[cZ];exact ak rfl
 .simp only[cZ,dL];exact ak rfl
 .simp only[cZ,dL];exact ak rfl
 exact aF
theorem xY:∀(d:Nat) (t:aZ) (x y:ae),SC P t->aO P f K (fun a b=>b=a) (Op.eqGuardIn d t x y) (Op.eqGuardIn d t (val f x) (val f y))
|0,t,x,y,_=>aS
|d+1,t,x,y,ht=>by
 unfold Op.eqGuardIn;refine ai (aW t) ?_;rintro _ D ⟨rfl,hD⟩;split
 .exact(ht.inv hD).elim
 .rename_i _ _ fs xs j;simp only[dG];simp only[<-aav];refine ai (Q:=fun a b=>b=a) (rC _ _ fs.toList (fun g hg x y c=>?_) _ _ rfl) ?_
  .subst c;refine dV (fun _=>?_) (fun _=>?_)
   .refine ai (qi _ _ _) ?_;rintro p _ rfl;refine ai (qi _ _ _) ?_;rintro q _ rfl;refine ai (xY d g.type p q (ht.inv hD g (uz.1 hg))) ?_;rintro _ b rfl;refine dV (fun _=>ak ?_) (fun _=>ak ?_)<;>trivial
   exact ak (by trivial)
  rintro _ s rfl;split<;>exact ak rfl
 .rename_i _ _ len elem xs j;simp only[dG];refine ai (iD _) ?_;rintro _ n ⟨rfl,_⟩;simp only[Zi];refine ai (Q:=fun a b=>b=a) (rC _ _ _ (fun i _ x y c=>?_) _ _ rfl) ?_
  .subst c;refine ai (qi _ _ _) ?_;rintro p _ rfl;refine ai (qi _ _ _) ?_;rintro q _ rfl;refine ai (xY d elem p q (ht.inv hD)) ?_;rintro _ b rfl;refine dV (fun _=>ak ?_) (fun _=>ak ?_)<;>trivial
  rintro _ s rfl;split<;>exact ak rfl
 rename_i h1 h2 k;split
 .exact(ht.inv hD).elim
 .rename_i h e;cases x<;>simp only[dY,dK,dP,dw,bV,aK,bI,eU,gm,dL,cZ,dh,dJ,dG,cO,reduceCtorEq] at h
  all_goals (try exact(LZ h).elim)
  cases y<;>simp only[dY,dK,dP,dw,bV,aK,bI,eU,gm,dL,cZ,dh,dJ,dG,cO,reduceCtorEq] at e;all_goals (try exact(LZ e).elim)
  exact(h2 _ _ _ rfl rfl rfl).elim
 .rename_i h e;cases x<;>simp only[dY,dK,dP,dw,bV,aK,bI,eU,gm,dL,cZ,dh,dJ,dG,cO,reduceCtorEq] at h
  all_goals (try exact(LZ h).elim)
  cases y<;>simp only[dY,dK,dP,dw,bV,aK,bI,eU,gm,dL,cZ,dh,dJ,dG,cO,reduceCtorEq] at e;all_goals (try exact(LZ e).elim)
  exact(k _ _ _ _ rfl rfl rfl).elim
 exact ak rfl
theorem ND(op)(k)(x y):aO P f K (aJ f) (Op.intArith op k x y) (Op.intArith op k x y):=by unfold Op.intArith;split<;>first|exact ak (by simp[aJ])|exact aF
theorem ac1(op)(k)(x y):aO P f K (aJ f) (Op.intDiv op k x y) (Op.intDiv op k x y):=by unfold Op.intDiv;refine dV (fun _=>gq _) (fun _=>?_);split<;>first|exact ak (by simp[aJ])|exact aF
theorem QP(op)(k)(x y):aO P f K (aJ f) (Op.intBits op k x y) (Op.intBits op k x y):=by unfold Op.intBits;dsimp only;split<;>first|exact ak (by simp[aJ])|exact aF
theorem NC(op)(x y):aO P f K (aJ f) (Op.intCmp op x y) (Op.intCmp op x y):=by unfold Op.intCmp;split<;>first|exact ak (by simp[aJ])|exact aF
theorem ZI(op)(k)(x)(a)(y):aO P f K (aJ f) (Op.shift op k x a y) (Op.shift op k x a y):=by unfold Op.shift;refine dV (fun _=>gq _) (fun _=>?_);dsimp only;split<;>first|exact ak (by simp[aJ])|exact aF
theorem wz(op)(x y):aO P f K (aJ f) (Op.stringOp op x y) (Op.stringOp op x y):=by
 unfold Op.stringOp;dsimp only;split
 .exact dV (fun _=>aS) (fun _=>ak (by simp[aJ]))
 all_goals first|exact ak (by simp[aJ])|exact aF
theorem Td(hf:yZ f)(hx:Fix P f)(t)(x y)(ht:SC P t):aO P f K (fun a b=>b=a) (Op.equal t x y) (Op.equal t (val f x) (val f y)):=Jc hf hx _ t x y ht
theorem afL(op)(x):aO P f K (aJ f) (Op.unary op x) (Op.unary op (val f x)):=by
 unfold Op.unary;split
 .simp[dK];exact ND _ _ _ _
 .simp[dK];exact QP _ _ _ _
 .simp[dP];exact ak (by simp[aJ])
 .simp[dw];exact ak (by simp[aJ])
 .simp[dY];exact ak (by simp[aJ])
 .exact aS
 .exact aS
 exact aF
inductive Quiet (P:aH) {α:Type}:Sem α->Prop
 |pure (a:α):Quiet P (.pure a)
 |choose (q:Question) {k:Nat->Sem α} (h:∀n,Quiet P (k n)):Quiet P (.choose q k)
 |program {k:aH->Sem α} (h:Quiet P (k P)):Quiet P (.program k)
 |halt (h:Halt) (hn:pI h):Quiet P (.halt h)
theorem Quiet.bind{α β:Type}{s}{g:α->Sem β}(h:Quiet P s)(hg:∀a,Quiet P (g a)):Quiet P (s >>= g):=by
 induction h with
 |pure a=>exact hg a
 |choose q _ ih=>exact .choose q ih
 |program _ ih=>exact .program ih
 |halt h hn=>exact .halt h hn
theorem Quiet.rel{α:Type}{s:Sem α}(h:Quiet P s):aO P f K (fun a b=>b=a) s s:=by
 induction h with
 |pure a=>exact .pure rfl
 |choose q _ ih=>exact .choose ih
 |program _ ih=>exact .program ih
 |halt h hn=>exact .halt hn
theorem jO{α:Type}(a:α):Quiet P (pure a):=.pure a
theorem Ea{α:Type}(m):Quiet P (stuck m:Sem α):=.halt _ (uX m)
theorem NL(q):Quiet P (choose q):=.choose q fun n=>.pure n
theorem Tq(op)(k)(x y):Quiet P (Op.floatArith op k x y):=by unfold Op.floatArith;cases op<;>(refine Quiet.bind (by first|exact jO _|exact Ea _) fun r=>?_)<;>(cases r<;>first|exact jO _|exact Quiet.bind (NL _) fun _=>jO _)
theorem XW(op)(k)(x y):Quiet P (Op.floatCmp op k x y):=by unfold Op.floatCmp;dsimp only;split<;>first|exact jO _|exact Ea _
theorem NK(s)(b)(d):Quiet P (Conv.floatToFloat s b d):=by
 unfold Conv.floatToFloat;split
 .exact jO _
 split
 .exact Quiet.bind (NL _) fun _=>jO _
 .exact jO _
 dsimp only;split
 .exact Quiet.bind (NL _) fun _=>jO _
 exact jO _
theorem gU(op)(k)(x y):Quiet P (Op.Complex.arith op k x y):=by unfold Op.Complex.arith;refine Quiet.bind (Tq _ _ _ _) fun v=>?_;split<;>first|exact jO _|exact Ea _
theorem ac8(v):Quiet P (asBool v):=by unfold asBool;split<;>first|exact jO _|exact Ea _
theorem VS(op)(k)(x y):Quiet P (Op.Complex.cmp op k x y):=Quiet.bind (XW _ _ _ _) fun v=>ac8 v
theorem Jg(s)(x)(d):Quiet P (Op.Complex.conv s x d):=by
 unfold Op.Complex.conv;split
 .exact jO _
 refine Quiet.bind (NK _ _ _) fun v=>?_;split<;>first|exact jO _|exact Ea _
theorem abl(a b c d):Quiet P (Op.Complex.product a b c d):=by unfold Op.Complex.product Op.Complex.sub Op.Complex.mul Op.Complex.add;repeat' (first|exact jO _|exact gU _ _ _ _|refine Quiet.bind ?_ fun _=>?_)
theorem Kz(s a b c d):Quiet P (Op.Complex.corrected s a b c d):=by unfold Op.Complex.corrected Op.Complex.sub Op.Complex.mul Op.Complex.add;repeat' (first|exact jO _|exact gU _ _ _ _|refine Quiet.bind ?_ fun _=>?_)
theorem VQ{α:Type}{c:Prop}[Decidable c]{a b:Sem α}(h:Quiet P a)(h':Quiet P b):Quiet P (if c then a else b):=by split<;>assumption
theorem ac6(a b c d e g):Quiet P (Op.Complex.cmp .eql .f64 c 0 >>= fun x=>Op.Complex.cmp .eql .f64 d 0 >>= fun y=>if (!(Op.Complex.isNaN e&&Op.Complex.isNaN g))=true then pure (e,g) else if ((x&&y)&&(!Op.Complex.isNaN a || !Op.Complex.isNaN b))=true then(Op.Complex.mul (Op.Complex.copysign Op.Complex.inf c) a >>= fun r=>Op.Complex.mul (Op.Complex.copysign Op.Complex.inf c) b >>= fun s=>pure (r,s)) else if ((Op.Complex.isInf a||Op.Complex.isInf b)&&Op.Complex.isFinite c&&Op.Complex.isFinite d)=true then Op.Complex.corrected Op.Complex.inf (Op.Complex.inf2one a) (Op.Complex.inf2one b) c d else if ((Op.Complex.isInf c||Op.Complex.isInf d)&&Op.Complex.isFinite a&&Op.Complex.isFinite b)=true then Op.Complex.corrected 0 a b (Op.Complex.inf2one c) (Op.Complex.inf2one d) else pure (e,g)):=.bind (VS _ _ _ _) fun _=>.bind (VS _ _ _ _) fun _=>VQ (jO _) (VQ (.bind (gU _ _ _ _) fun _=>.bind (gU _ _ _ _) fun _=>jO _) (VQ (Kz _ _ _ _ _) (VQ (Kz _ _ _ _ _) (jO _))))
theorem XV(a b c d):Quiet P (Op.Complex.quotient a b c d):=by
 unfold Op.Complex.quotient;dsimp only;refine .bind (VS _ _ _ _) fun t=>?_;refine VQ ?_ ?_
 .refine .bind (gU _ _ _ _) fun _=>.bind (gU _ _ _ _) fun _=>.bind (gU _ _ _ _) fun _=>.bind (gU _ _ _ _) fun _=>.bind (gU _ _ _ _) fun _=>.bind (gU _ _ _ _) fun _=>.bind (gU _ _ _ _) fun _=>.bind (gU _ _ _ _) fun _=>.bind (gU _ _ _ _) fun _=>?_;exact .bind (jO _) fun x=>ac6 a b c d x.1 x.2
 refine .bind (gU _ _ _ _) fun _=>.bind (gU _ _ _ _) fun _=>.bind (gU _ _ _ _) fun _=>.bind (gU _ _ _ _) fun _=>.bind (gU _ _ _ _) fun _=>.bind (gU _ _ _ _) fun _=>.bind (gU _ _ _ _) fun _=>.bind (gU _ _ _ _) fun _=>.bind (gU _ _ _ _) fun _=>?_;exact .bind (jO _) fun x=>ac6 a b c d x.1 x.2
def ajf(P:aH)(s:Sem ae):Prop:=∀(f:Nat->Nat) (K:Kd),aO P f K (aJ f) s s
theorem Lu(op)(k)(x y):ajf P (Op.floatArith op k x y):=fun f K=>by unfold Op.floatArith;cases op<;>(refine ai (Quiet.rel (by first|exact jO _|exact Ea _)) ?_)<;>(rintro _ r rfl;cases r<;>first|exact ak (by simp[aJ])|(refine ai (qj _) ?_;rintro n _ rfl;exact ak (by simp[aJ])))
theorem yJ(op)(k)(x y):ajf P (Op.floatCmp op k x y):=fun f K=>by unfold Op.floatCmp;dsimp only;split<;>first|exact ak (by simp[aJ])|exact aF
theorem wP(op)(k)(a b c d):ajf P (Op.complexOp op k a b c d):=fun f K=>by
 have fin:∀x:Nat×Nat,aO P f K (aJ f) (Op.Complex.conv .f64 x.1 k >>= fun r=>Op.Complex.conv .f64 x.2 k >>= fun s=>pure (Value.complex k r s)) (Op.Complex.conv .f64 x.1 k >>= fun r=>Op.Complex.conv .f64 x.2 k >>= fun s=>pure (Value.complex k r s)):=fun x=>by refine ai (Quiet.rel (Jg _ _ _)) ?_;rintro _ r rfl;refine ai (Quiet.rel (Jg _ _ _)) ?_;rintro _ s rfl;exact ak (by simp[aJ])
 cases op<;>dsimp only[Op.complexOp]<;>first
  |exact aF
  |(refine ai (Quiet.rel (gU _ _ _ _)) ?_;rintro _ r rfl;refine ai (Quiet.rel (gU _ _ _ _)) ?_;rintro _ s rfl;exact ak (by simp[aJ]))
  |(refine ai (Quiet.rel (VS _ _ _ _)) ?_;rintro _ r rfl;refine ai (Quiet.rel (VS _ _ _ _)) ?_;rintro _ s rfl;exact ak (by simp[aJ]))
  |(refine ai (Quiet.rel (Jg _ _ _)) ?_;rintro _ r1 rfl;refine ai (Quiet.rel (Jg _ _ _)) ?_;rintro _ r2 rfl
    refine ai (Quiet.rel (Jg _ _ _)) ?_;rintro _ r3 rfl;refine ai (Quiet.rel (Jg _ _ _)) ?_;rintro _ r4 rfl;refine dV (fun _=>?_) (fun _=>?_)
    .refine ai (Quiet.rel (abl _ _ _ _)) ?_;rintro _ x rfl;exact fin x
    refine ai (Quiet.rel (XV _ _ _ _)) ?_;rintro _ x rfl;exact fin x)
theorem Zx{e b n a}(h:SR (some (e,n)) (some (b,a))):e=b/\(n=a\/n=0):=by
 rcases h with h|⟨_,_,h1,h2⟩
 .cases h;exact⟨rfl,.inl rfl⟩
 cases h1;cases h2;exact⟨rfl,.inr rfl⟩
theorem WX(p)(d)(e)(off)(n)(_hn:0<=n):cellAtBytes p d e 0 off n=none:=by
 unfold cellAtBytes;simp only[Option.bind_eq_bind];split
 .rfl
 cases byteOfCell p d e _ with
 |none=>rfl
 |some here=>
 simp only[Option.bind_some,Nat.zero_mul];rw[aY]
 .rfl
 simp;omega
theorem Hm(t)(x y):aO P f K (fun x y=>aJ f x y/\∃o,x=.pointer o) (Builtin.unsafeAdd_ #[] t #[x,y]) (Builtin.unsafeAdd_ #[] t #[val f x,val f y]):=by
 cases x with
 |pointer ptr=>
  rw[aK];refine ai (Ht y) ?_;rintro _ n rfl;dsimp only;refine dV (fun _=>?_) (fun _=>dV (fun _=>Dies.rel ((dM _).bind _)) (fun h0=>?_))
  .cases ptr with
   |none=>exact aS
   |some a=>refine ai (VG a.block) ?_;rintro _ _ ⟨rfl,rfl⟩;exact ak ⟨by simp[aJ],_,rfl⟩
  cases ptr with
  |none=>exact aS
  |some a=>
   refine ai (Ho a.block) ?_;intro s s' hs;cases s with
   |none=>exact aS
   |some s=>
    cases s' with
    |none=>cases hs.isSome
    |some s'=>
     have⟨e,c⟩:=s;have⟨e',c'⟩:=s';obtain⟨rfl,h2⟩:=Zx hs;dsimp only;refine jY ?_;rcases h2 with rfl|rfl
     .dsimp[addr];cases cellAtBytes P P.depth e _ a.off n with
      |none=>exact aS
      |some o=>exact ak ⟨by simp[aJ,addr],_,rfl⟩
     rw[Nat.zero_div,WX _ _ _ _ _ (by omega)];exact aS
 |_=>exact Dies.rel (dO _)
theorem Kt(t)(x y):aO P f K (aJ f) (Builtin.unsafeAdd_ #[] t #[x,y]) (Builtin.unsafeAdd_ #[] t #[val f x,val f y]):=(Hm t x y).mono fun _ _ h=>h.1
theorem yI(t)(x y):aO P f K (aJ f) (movedNumber t x y) (movedNumber t (val f x) (val f y)):=by
 unfold movedNumber;refine ai (aW t) ?_;rintro _ d ⟨rfl,_⟩;dsimp only;have tail:aO P f K (aJ f)
   (match x with
    |.pointer (some n)=>behindNumber n >>= fun r=>Builtin.unsafeAdd_ #[] t #[.pointer (some r.1),y] >>= fun z=>match z with|.pointer (some b)=>asNumber b r.2|v=>pure v
    |_=>Builtin.unsafeAdd_ #[] t #[x,y])
   (match val f x with
    |.pointer (some n)=>behindNumber n >>= fun r=>Builtin.unsafeAdd_ #[] t #[.pointer (some r.1),val f y] >>= fun z=>match z with|.pointer (some b)=>asNumber b r.2|v=>pure v
    |_=>Builtin.unsafeAdd_ #[] t #[val f x,val f y]):=by
  by_cases hx:∃n,x=.pointer (some n)
  .obtain⟨n,rfl⟩:=hx;simp[aK,Option.map_some];refine ai (jZ n) ?_;rintro⟨a,l⟩ _ rfl;refine ai (by have:=Hm (P:=P) (f:=f) (K:=K) t (.pointer (some a)) y;simpa only[aK,Option.map_some] using this) ?_;rintro z _ ⟨rfl,c⟩;by_cases e:∃b,z=.pointer (some b)
   .obtain⟨b,rfl⟩:=e;simp only[aK,Option.map_some];exact XU b l
   cases z with
   |pointer o=>
    cases o with
    |none=>simp only[aK,Option.map_none];exact ak (by simp[aJ])
    |some b=>exact absurd ⟨b,rfl⟩ e
   |iface u q=>have⟨o,c⟩:=c;cases c
   |_=>simp only[dY,dK,dP,dw,bV,bI,eU,gm,dL,cZ,dh,dJ,dG,cO];exact ak (by simp[aJ])
  have:=Kt (P:=P) (f:=f) (K:=K) t x y;cases x with
  |pointer o=>
   cases o with
   |none=>simp only[aK,Option.map_none] at this⊢;exact this
   |some b=>exact absurd ⟨b,rfl⟩ hx
  |iface u z=>exact aF
  |_=>simp only[dY,dK,dP,dw,bV,bI,eU,gm,dL,cZ,dJ,dG,cO] at this⊢;exact this
 split
 .exact Dies.rel ((dM _).bind _)
 exact tail
theorem Nz(t)(x y):aO P f K (aJ f) (movedPointer t x y) (movedPointer t (val f x) (val f y)):=by
 unfold movedPointer;have key:=Kt (P:=P) (f:=f) (K:=K) t x y;by_cases hx:∃n,x=.pointer (some n)
 .obtain⟨a,rfl⟩:=hx;simp[aK,Option.map_some] at key⊢;refine ai (Nw a.block) ?_;rintro o _ rfl;rw[Option.isSome_map];exact dV (fun _=>Dies.rel ((dM _).bind _)) (fun _=>key)
 cases x with
 |pointer o=>
  cases o with
  |none=>simp[aK,Option.map_none] at key⊢;exact key
  |some b=>exact absurd ⟨b,rfl⟩ hx
 |iface u z=>exact aF
 |_=>simp[dY,dK,dP,dw,bV,bI,eU,gm,dL,cZ,dJ,dG,cO] at key⊢;exact key
theorem Ku(hf:yZ f)(hx:Fix P f)(a b):aO P f K (fun x y=>y=x) (Op.twoPlaces a b) (Op.twoPlaces (addr f a) (addr f b)):=by
 unfold Op.twoPlaces;refine jY ?_;have h1:((addr f a).block !=(addr f b).block)=(a.block !=b.block):=by show(!((addr f a).block==(addr f b).block)) = !(a.block==b.block);rw[show((addr f a).block==(addr f b).block)=(a.block==b.block) from RU hf _ _]
 have h2:decide ((addr f a).block>=P.globals.size)=decide (a.block>=P.globals.size):=by refine Sj.2 ?_;have:=Fix.lt hf hx a.block;show(P.globals.size<=f a.block)↔(P.globals.size<=a.block);omega
 rw[h1,h2];refine dV (fun _=>Dies.rel ((dM _).bind _)) (fun _=>?_);refine ai (wF _) ?_;rintro _ m rfl;refine ai (wF _) ?_;rintro _ n rfl;exact ak rfl
theorem abj(hf:yZ f)(hx:Fix P f)(k)(a b):aO P f K (aJ f) (Op.addrSub k a b) (Op.addrSub k (addr f a) (addr f b)):=by unfold Op.addrSub;refine ai (Ku hf hx a b) ?_;rintro _ ⟨m,n⟩ rfl;exact ak (by simp[aJ])
theorem D9(hf:yZ f)(hx:Fix P f)(op)(a b):aO P f K (aJ f) (Op.addrCmp op a b) (Op.addrCmp op (addr f a) (addr f b)):=by unfold Op.addrCmp;refine ai (Ku hf hx a b) ?_;rintro _ ⟨m,n⟩ rfl;dsimp only;split<;>first|exact ak (by simp[aJ])|exact aS
theorem Je(k)(a)(n):aO P f K (aJ f) (Op.addrMod k a n) (Op.addrMod k (addr f a) n):=by
 unfold Op.addrMod;refine ai (Ho a.block) ?_;intro s s' hs;cases s with
 |none=>exact aS
 |some s=>
  cases s' with
  |none=>cases hs.isSome
  |some s'=>
  have⟨e,c⟩:=s;have⟨e',c'⟩:=s';obtain⟨rfl,_⟩:=Zx hs;dsimp only;refine ai (jM e) ?_;rintro _ i ⟨rfl,_⟩;refine dV (fun _=>Dies.rel ((dM _).bind _)) (fun _=>?_);refine ai (wF _) ?_;rintro _ m rfl;exact ak (by simp[aJ])
def afm(P:aH)(op:BinOp)(t:aZ):Prop:=(op=.eql\/op=.neq)->SC P t
theorem sS{t x y}(h:mr x=true\/mr y=true):binOp .eql t x y=(Op.equal t x y >>= fun b=>pure (.bool b)):=by cases x<;>cases y<;>first|rfl|(simp[mr] at h;done)
theorem sQ{t x y}(h:mr x=true\/mr y=true):binOp .neq t x y=(Op.equal t x y >>= fun b=>pure (.bool !b)):=by cases x<;>cases y<;>first|rfl|(simp[mr] at h;done)
theorem Aq{t v}:mr (val f (.iface t v))=true:=by rw[dh];exact qy t v _
theorem XT(hf:yZ f)(hx:Fix P f)(t)(x y)(ht:SC P t):aO P f K (aJ f) (binOp .eql t x y) (binOp .eql t (val f x) (val f y)):=by
 have d:aO P f K (aJ f) (Op.equal t x y >>= fun b=>pure (.bool b)) (Op.equal t (val f x) (val f y) >>= fun b=>pure (.bool b)):=by refine ai (Td hf hx t x y ht) ?_;rintro _ b rfl;exact ak (by simp[aJ])
 by_cases c:∃u z,x=.iface u z
 .obtain⟨u,z,rfl⟩:=c;rw[sS (.inl rfl),sS (.inl Aq)];exact d
 by_cases a:∃u z,y=.iface u z
 .obtain⟨u,z,rfl⟩:=a;rw[sS (.inr rfl),sS (.inr Aq)];exact d
 cases x<;>cases y<;>first
  |exact absurd ⟨_,_,rfl⟩ c
  |exact absurd ⟨_,_,rfl⟩ a
  |(simp[dY,dK,dP,dw,bV,aK,bI,eU,gm,dL,cZ,dh,dJ,dG,cO] at d⊢;exact d)
  |(simp[dK];exact dV (fun _=>aF) (fun _=>NC _ _ _))
  |(simp[dP];exact dV (fun _=>aF) (fun _=>yJ _ _ _ _ f K))
  |(simp[dw];exact dV (fun _=>aF) (fun _=>wP _ _ _ _ _ _ f K))
  |(simp[bV];exact wz .eql _ _)
theorem XR(hf:yZ f)(hx:Fix P f)(t)(x y)(ht:SC P t):aO P f K (aJ f) (binOp .neq t x y) (binOp .neq t (val f x) (val f y)):=by
 have d:aO P f K (aJ f) (Op.equal t x y >>= fun b=>pure (.bool !b)) (Op.equal t (val f x) (val f y) >>= fun b=>pure (.bool !b)):=by refine ai (Td hf hx t x y ht) ?_;rintro _ b rfl;exact ak (by simp[aJ])
 by_cases c:∃u z,x=.iface u z
 .obtain⟨u,z,rfl⟩:=c;rw[sQ (.inl rfl),sQ (.inl Aq)];exact d
 by_cases a:∃u z,y=.iface u z
 .obtain⟨u,z,rfl⟩:=a;rw[sQ (.inr rfl),sQ (.inr Aq)];exact d
 cases x<;>cases y<;>first
  |exact absurd ⟨_,_,rfl⟩ c
  |exact absurd ⟨_,_,rfl⟩ a
  |(simp[dY,dK,dP,dw,bV,aK,bI,eU,gm,dL,cZ,dh,dJ,dG,cO] at d⊢;exact d)
  |(simp[dK];exact dV (fun _=>aF) (fun _=>NC _ _ _))
  |(simp[dP];exact dV (fun _=>aF) (fun _=>yJ _ _ _ _ f K))
  |(simp[dw];exact dV (fun _=>aF) (fun _=>wP _ _ _ _ _ _ f K))
  |(simp[bV];exact wz .neq _ _)
theorem Qm(hf:yZ f)(hx:Fix P f)(op)(t)(x y)(h1:op≠.eql)(h2:op≠.neq):aO P f K (aJ f) (binOp op t x y) (binOp op t (val f x) (val f y)):=by
 by_cases hp:(∃a,x=.pointer a)\/(∃a,y=.pointer a)
 .have j:∀x y,aO P f K _ (underlying t >>= fun d=>if (match d with|.unsafePointer=>true|_=>false)=true then movedPointer t x y else movedNumber t x y) (underlying t >>= fun d=>if (match d with|.unsafePointer=>true|_=>false)=true then movedPointer t _ _ else movedNumber t _ _):=fun x y=>by
   refine ai (aW t) ?_;rintro _ d ⟨rfl,_⟩;exact dV (fun _=>Nz t x y) (fun _=>yI t x y)
  have two:∀(a b) (g:Addr->Addr->Sem ae),(∀a b,aO P f K _ _ (g (addr f a) (addr f b)))->aO P f K (aJ f) (behindNumber a >>= fun r=>behindNumber b >>= fun s=>g r.1 s.1) (behindNumber _ >>= fun r=>behindNumber _ >>= fun s=>g r.1 s.1):=fun a b g hg=>by refine ai (jZ a) ?_;rintro r _ rfl;refine ai (jZ b) ?_;rintro s _ rfl;exact hg _ _
  have one:∀(a) (g:Addr->Sem ae),(∀a,aO P f K (aJ f) (g a) (g (addr f a)))->aO P f K (aJ f) (behindNumber a >>= fun r=>g r.1) (behindNumber (addr f a) >>= fun r=>g r.1):=fun a g hg=>by refine ai (jZ a) ?_;rintro r _ rfl;exact hg _
  unfold binOp;split;all_goals (try (exact absurd rfl h1))
  all_goals (try (exact absurd rfl h2))
  all_goals (try (rcases hp with⟨_,hp⟩|⟨_,hp⟩<;>cases hp<;>done))
  .have c:=j (.pointer ‹_›) (.int ‹_› ‹_›);simp only[aK,dK] at c⊢;exact c
  .have c:=yI (P:=P) (f:=f) (K:=K) t (.pointer ‹_›) (.int ‹_› ‹_›);simp only[aK,dK] at c⊢;exact c
  .rename_i a k n;have c:=yI (P:=P) (f:=f) (K:=K) t (.pointer a) (.int k (-n));simp only[aK,dK] at c⊢;exact c
  .simp only[aK,Option.map_some];exact two _ _ (Op.addrSub .u64) (abj hf hx .u64)
  .simp only[aK,Option.map_some];exact two _ _ (Op.addrCmp _) (D9 hf hx _)
  .simp only[aK,Option.map_some];exact two _ _ (Op.addrCmp _) (D9 hf hx _)
  .simp only[aK,Option.map_some];exact two _ _ (Op.addrCmp _) (D9 hf hx _)
  .simp only[aK,Option.map_some];exact two _ _ (Op.addrCmp _) (D9 hf hx _)
  .simp only[aK,dK,Option.map_some];exact one _ (Op.addrMod _ · _) (fun a=>Je _ a _)
  .simp only[aK,dK,Option.map_some];exact one _ (Op.addrMod _ · _) (fun a=>Je _ a _)
  .simp only[aK,dK,Option.map_some];exact one _ (Op.addrMod _ · _) (fun a=>Je _ a _)
  .exact aS
  .exact aS
  exact aF
 have i:∀a,x≠.pointer a:=fun a e=>hp (.inl ⟨a,e⟩);have h:∀a,y≠.pointer a:=fun a e=>hp (.inr ⟨a,e⟩);by_cases hs:val f x=x/\val f y=y
 .rw[hs.1,hs.2];unfold binOp
  split;all_goals (try (exact absurd rfl h1))
  all_goals (try (exact absurd rfl h2))
  all_goals (try (exact absurd rfl (i _)))
  all_goals (try (exact absurd rfl (h _)))
  .exact ZI _ _ _ _ _
  .exact ZI _ _ _ _ _
  .refine dV (fun _=>aF) (fun _=>?_)
   split<;>first|exact ND _ _ _ _|exact ac1 _ _ _ _|exact QP _ _ _ _|exact NC _ _ _
  .refine dV (fun _=>aF) (fun _=>?_)
   split<;>first|exact Lu _ _ _ _ f K|exact yJ _ _ _ _ f K
  .exact dV (fun _=>aF) (fun _=>wP _ _ _ _ _ _ f K)
  .exact wz _ _ _
  exact aF
 unfold binOp;split;all_goals (try (exact absurd rfl h1))
 all_goals (try (exact absurd rfl h2))
 all_goals (try (exact absurd rfl (i _)))
 all_goals (try (exact absurd rfl (h _)))
 all_goals (try (exact absurd ⟨by simp,by simp⟩ hs))
 exact aF
theorem afT(hf:yZ f)(hx:Fix P f)(op)(t)(x y)(ho:afm P op t):aO P f K (aJ f) (binOp op t x y) (binOp op t (val f x) (val f y)):=by
 by_cases h1:op=.eql
 .subst h1;exact XT hf hx t x y (ho (.inl rfl))
 by_cases h2:op=.neq
 .subst h2;exact XR hf hx t x y (ho (.inr rfl))
 exact Qm hf hx op t x y h1 h2
theorem abe(op)(t)(x y)(a b)(ho:afm P op t):aO P f K (fun _ _=>True) (eqGuard op t x y a b) (eqGuard op t x y (val f a) (val f b)):=by
 unfold eqGuard;by_cases c:op=.eql\/op=.neq
 .have ht:=ho c;refine dV (fun h=>ak trivial) (fun _=>?_)
  by_cases hn:a=.nilIface/\b=.nilIface
  .obtain⟨rfl,rfl⟩:=hn;simp[dJ];refine dV (fun _=>ak trivial) (fun _=>?_);refine ai (by have:=xY (f:=f) (K:=K) Op.maxDepth t .nilIface .nilIface ht;simpa using this) ?_;rintro _ r rfl;exact dV (fun _=>aS) (fun _=>ak trivial)
  by_cases hg:∃xs i,a=.agg xs/\b=.agg i
  .obtain⟨xs,i,rfl,rfl⟩:=hg;simp[dG];refine jY ?_;refine jY ?_;refine dV (fun _=>ak trivial) (fun _=>?_);refine ai (by have:=xY (f:=f) (K:=K) Op.maxDepth t (.agg xs) (.agg i) ht;simpa using this) ?_;rintro _ r rfl;exact dV (fun _=>aS) (fun _=>ak trivial)
  by_cases d:∃u z,a=.iface u z
  .obtain⟨u,z,rfl⟩:=d;rw[dh];have e:=qy u z (val f z);generalize Wj u z _=q at e⊢;cases q<;>first|exact ak trivial|cases e
  by_cases g:∃u z,b=.iface u z
  .obtain⟨u,z,rfl⟩:=g;rw[dh];have e:=qy u z (val f z);generalize Wj u z _=q at e⊢;cases a<;>cases q<;>first|exact absurd ⟨_,_,rfl⟩ d|(simp[dY,dK,dP,dw,bV,aK,bI,eU,gm,dL,cZ,dJ,dG,cO];exact ak trivial)|cases e
  cases a<;>cases b<;>first
   |exact absurd ⟨_,_,rfl⟩ d
   |exact absurd ⟨_,_,rfl⟩ g
   |exact absurd ⟨rfl,rfl⟩ hn
   |exact absurd ⟨_,_,rfl,rfl⟩ hg
   |(simp[dY,dK,dP,dw,bV,aK,bI,eU,gm,dL,cZ,dh,dJ,dG,cO];exact ak trivial)
 refine dV (fun _=>ak trivial) (fun h=>?_);cases op<;>first|exact absurd rfl h|exact absurd (.inl rfl) c|exact absurd (.inr rfl) c
def aex(f:Nat->Nat)(c:CommCase):CommCase:=⟨val f c.chan,c.send.map (val f),val f c.zero⟩
def next(f:Nat->Nat):Next->Next
|.value v=>.value (val f v)
|.enter g as=>.enter g (vals f as)
|.round l g tmps a b=>.round (f l) g (vals f tmps) a b
|.defer d=>.defer (deferred f d)
|.spawn d=>.spawn (deferred f d)
|.comm cs b s=>.comm (cs.map (aex f)) b s
|x=>x
def aio:Next->Bool
|.value _|.skip|.enter .. | .round .. | .defer _=>true
|_=>false
def akP(K:Kd):Next->Prop
|.round _ _ _ a b=>K.code a/\K.code b
|.defer d=>K.tgt d.target
|.enter g _=>K.fn g
|_=>True
abbrev kR(f:Nat->Nat)(K:Kd):Next->Next->Prop:=fun x y=>y=next f x/\aio x=true/\akP K x
theorem fC{s s'}(h:aO P f K (aJ f) s s'):aO P f K (kR f K) (s >>= fun v=>pure (Next.value v)) (s' >>= fun v=>pure (Next.value v)):=by refine ai h ?_;rintro v _ rfl;exact ak ⟨rfl,rfl,trivial⟩
theorem Fq{s s'}(h:aO P f K (fun _ _:Unit=>True) s s'):aO P f K (kR f K) (s >>= fun _=>pure Next.skip) (s' >>= fun _=>pure Next.skip):=by refine ai h ?_;rintro _ _ _;exact ak ⟨rfl,rfl,trivial⟩
def place(f:Nat->Nat):Place->Place
|.val v=>.val (val f v)
|.var a=>.var (addr f a)
theorem ZK(t)(x):aO P f K (aJ f) (x.get t) ((place f x).get t):=by
 cases x with
 |val v=>exact ak rfl
 |var a=>exact D6 t a
theorem CV:∀(l:List FieldStep) (t:aZ) (x:Place),aO P f K (fun a b=>b=(a.1,place f a.2)) (follow l t x) (follow l t (place f x))
|[],t,x=>ak rfl
|s::rest,t,x=>by
 unfold follow;refine ai (aW _) ?_;rintro _ d ⟨rfl,_⟩;cases d with
 |struct fields=>
  dsimp only;cases fields[s.index]? with
  |none=>exact aF
  |some g=>
   dsimp only;refine dV (fun _=>?_) (fun _=>?_)
   .refine ai (ZK t x) ?_;rintro v _ rfl;refine ai (Hu v) ?_;rintro a _ rfl;refine ai (AO a g) ?_;rintro b _ rfl;exact CV rest g.type (.var b)
   cases x with
   |var a=>refine ai (AO a g) ?_;rintro b _ rfl;exact CV rest g.type (.var b)
   |val v=>
    cases v with
    |agg cs=>
    simp only[place,dG];refine ai (qi _ cs _) ?_;rintro b _ rfl;exact CV rest g.type (.val b)
    |_=>exact aF
 |_=>exact aF
theorem aa6(t u)(x)(a b):aO P f K (aJ f) (Builtin.ssaWrapNilChk_ #[t] u #[x,strVal a,strVal b]) (Builtin.ssaWrapNilChk_ #[t] u #[val f x,strVal a,strVal b]):=by
 cases x with
 |pointer o=>
  cases o with
  |some p=>
  simp[aK,Option.map_some];exact ak (show(Value.pointer (some (addr f p)))=val f (.pointer (some p)) by simp)
  |none=>
  refine Dies.rel ?_;refine .after (Dx _) fun n=>?_;dsimp only;split
  .exact .bind (dA _) _
  refine .after (BO _) fun d=>?_;split
  .refine .after (Qy _) fun i=>?_
   split
   .split
    .split
     .exact dA _
     exact dM _
    exact dO _
   exact dO _
  exact dO _
 |_=>exact Dies.rel (dO _)
theorem Hq(t)(x)(p)(w):aO P f K (aJ f) (receiverAt t x p w) (receiverAt t (place f x) p w):=by
 unfold receiverAt;refine ai (aW _) ?_;rintro _ d ⟨rfl,_⟩;have tail:∀(e) (v),aO P f K _ (asAddr v >>= fun a=>loadVar e a) (asAddr _ >>= fun a=>loadVar e a):=fun e v=>by refine ai (Hu v) ?_;rintro a _ rfl;exact D6 _ _
 have ptr:∀(e:aZ),aO P f K _
   (x.get t >>= fun q=>match w with
    |some name=>Builtin.ssaWrapNilChk_ #[t] t #[q,strVal "",strVal name] >>= fun q=>asAddr q >>= fun a=>loadVar e a
    |none=>pure q >>= fun q=>asAddr q >>= fun a=>loadVar e a)
   ((place f x).get t >>= fun q=>match w with
    |some name=>Builtin.ssaWrapNilChk_ #[t] t #[q,strVal "",strVal name] >>= fun q=>asAddr q >>= fun a=>loadVar e a
    |none=>pure q >>= fun q=>asAddr q >>= fun a=>loadVar e a):=fun e=>by
  refine ai (ZK _ _) ?_;rintro v _ rfl;cases w with
  |some name=>
  refine ai (aa6 _ _ _ _ _) ?_;rintro v _ rfl;exact tail _ _
  |none=>exact tail _ _
 cases d<;>cases p<;>first
  |exact ZK _ _
  |exact ptr _
  |(cases x with
    |val v=>exact aF
    |var a=>exact ak (show Value.pointer _=val f _ by simp))
theorem Ql(t)(x)(l)(p):aO P f K (aJ f) (receiverVia t x l p) (receiverVia t (val f x) l p):=by unfold receiverVia;refine ai (CV l.toList t (.val x)) ?_;rintro⟨u,y⟩ _ rfl;exact Hq u y p none
theorem yP{t}{α:Type}{g:TypeInfo->Sem α}(h:∀i,P.info? t=some i->Dies P K (g i)):Dies P K (typeInfo t >>= g):=fun v es a=>by
 have e:Sem.runT P (typeInfo t >>= g) v es=Sem.runT P ((match P.info? t with|some i=>pure i|none=>stuck "no such type" : Sem TypeInfo) >>= g) v es:=rfl
 rw[e];cases hi:P.info? t with
 |none=>exact Dies.bind (dO _) g v es a
 |some i=>exact h i hi v es a
theorem XO{t}(ht:P.types.size<=t)(n)(x)(name){α:Type}{Q}{s':Sem α}:aO P f K Q (method n t x name) s':=by
 cases n with
 |zero=>exact aS
 |succ n=>
 unfold method;refine .dies (yP fun i hi=>?_);rw[Jq ht hi];exact dO _
theorem Qv{t}(ht:P.types.size<=t)(n)(x)(name):Dies P K (method n t x name):=by
 cases n with
 |zero=>exact dM _
 |succ n=>
 unfold method;refine yP fun i hi=>?_;rw[Jq ht hi];exact dO _
theorem VI(c:bz P):∀(n:Nat) (t:aZ) (x:ae) (name:String),aO P f K (fun a b=>b=(a.1,val f a.2)) (method n t x name) (method n t (val f x) name)
|0,_,_,_=>aS
|n+1,t,x,name=>by
 unfold method;refine ai (jM t) ?_;rintro _ i ⟨rfl,_⟩;dsimp only;cases i.methods.find? (·.name==name) with
 |none=>exact aF
 |some m=>
  dsimp only;refine ai (CV m.path.toList t (.val x)) ?_;rintro⟨u,y⟩ _ rfl;dsimp only;cases m.func with
  |none=>
   dsimp only;refine ai (ZK u y) ?_;rintro v _ rfl;cases v with
   |iface t' v'=>
   by_cases ht:t'<jT
   .simp only[dh,FN ht];exact VI c n t' v' name
   exact XO (bM c.types (PG.1 ht)) n v' name
   |nilIface=>exact gq _
   |_=>exact aF
  |some d=>have⟨g,p⟩:=d;dsimp only;refine ai (Hq u y p _) ?_;rintro v _ rfl;exact ak rfl
theorem VF(x):aO P f K (fun a b=>b=a) (Builtin.lenOf x) (Builtin.lenOf (val f x)):=by
 cases x with
 |slice a n c=>simp[bI];exact ak rfl
 |string s=>simp[bV];exact ak rfl
 |_=>exact aF
theorem sG(s n)(x):aO P f K (fun a b=>b=vals f a) (Builtin.firstCells s n x) (Builtin.firstCells s n (val f x)):=by
 cases x with
 |slice a l c=>
  cases a with
  |none=>simp[bI,Option.map_none];exact ak (by simp[vals])
  |some a=>simp[bI,Option.map_some];exact Ky a _
 |string s=>simp[bV];refine ak ?_;unfold vals;rw[oM];exact jL fun x _=>by simp
 |_=>exact aF
theorem abh(n):aO P f K (fun _ _=>True) (askRoom n) (askRoom n):=by unfold askRoom;exact dV (fun _=>acX) (fun _=>ak trivial)
theorem Um:Calm P K (Go.mark .noRoom):=fun _ _ a=>a
theorem YV(r):Calm P K (shape r):=fun _ _ a=>a
theorem WZ(a):Calm P K (frozen a):=fun _ _ b=>b
theorem aeH{α:Type}{c:Prop}[Decidable c]{a b:Sem α}(h:Calm P K a)(h':Calm P K b):Calm P K (if c then a else b):=by split<;>assumption
theorem BP(a)(n):Calm P K (Builtin.holdsCells a n):=by unfold Builtin.holdsCells;refine Calm.bind (YV _) fun s=>?_;split<;>exact iE _
theorem QA(size c n)(base)(x):Calm P K (Builtin.mayShare size c n base x):=by
 unfold Builtin.mayShare;have tail:∀there,Calm P K (if (!there)=true then pure true else match x with
   |.slice (some b) _ _=>Builtin.holdsCells b (n*size) >>= fun h=>pure (!h||base.any (·.block==b.block))
   |_=>pure false):=fun there=>by
  refine aeH (iE _) ?_;split
  .exact Calm.bind (BP _ _) fun _=>iE _
  exact iE _
 cases base with
 |none=>exact Calm.bind (iE true) tail
 |some a=>exact Calm.bind (BP _ _) fun h=>Calm.bind (WZ _) fun b=>Calm.bind (iE _) tail
theorem MK(f){z}(hc:dI z=true)(n):vals f (Builtin.zeroCells z.cells n)=Builtin.zeroCells z.cells n:=Ci f hc _
def ahU(P:aH)(ts:Array aZ):Prop:=∀t1 k,ts[1]?=some t1->P.underlying t1≠some (.int k)
def aeU(elem size:Nat)(base:aB Addr)(sLen sCap n:Nat)(x:ae):Sem ae:=choose (.appendCap (sLen+n) sCap elem) >>= fun newCap=>typeInfo elem >>= fun i=>askRoom (newCap*i.bytes) >>= fun _=>Builtin.firstCells size sLen (.slice base sLen sCap) >>= fun old=>Builtin.firstCells size n x >>= fun new=>zeroValue elem >>= fun z=>newRow elem (old++new++Builtin.zeroCells z.cells (newCap-(sLen+n))) >>= fun a=>pure (.slice (some a) (sLen+n) newCap)
def app1(elem size:Nat)(base:aB Addr)(sLen sCap n:Nat)(x:ae):Sem ae:=
 typeInfo elem >>= fun i=>if Builtin.nextslicecap (sLen+n) sCap*i.bytes>2 ^ 48 then
  (Builtin.mayShare size sLen n base x >>= fun b=>if (!b)=true then Go.mark .noRoom >>= fun _=>unsupported (.resourceLimit "append: a slice or a string whose bytes no memory bears")
   else unsupported (.resourceLimit "append: a slice or a string whose bytes no memory bears")) >>= fun _:Unit=>aeU elem size base sLen sCap n x
  else aeU elem size base sLen sCap n x
def app0(elem size:Nat)(base:aB Addr)(sLen sCap:Nat)(x:ae):Sem ae:=
 Builtin.lenOf x >>= fun n=>if sLen+n<=sCap then
   Builtin.firstCells size n x >>= fun new=>(match base with
    |some a=>storeCells (a.add (sLen*size)) new.toList >>= fun _=>pure (.slice base (sLen+n) sCap)
    |none=>pure (.slice base (sLen+n) sCap))
  else typeInfo elem >>= fun i=>if ((sLen+n:Nat):Int)>IntKind.i64.max/\(false=true\/i.bytes=0) then runtimePanic (.error "growslice: len out of range") >>= fun _:Unit=>app1 elem size base sLen sCap n x
   else app1 elem size base sLen sCap n x
theorem aia(hz:bz P)(elem size)(base)(sLen sCap n)(x):aO P f K (aJ f) (aeU elem size base sLen sCap n x) (aeU elem size (base.map (addr f)) sLen sCap n (val f x)):=by
 unfold aeU;refine ai (qj _) ?_;rintro newCap _ rfl;refine ai (jM _) ?_;rintro _ i3 ⟨rfl,_⟩;refine ai (abh _) ?_;rintro _ _ _;refine ai (by simpa using sG size sLen (.slice base sLen sCap)) ?_;rintro old _ rfl;refine ai (sG _ _ _) ?_;rintro new _ rfl;refine ai (kX hz _) ?_;rintro _ z ⟨rfl,hc⟩;have e:vals f (old++new++Builtin.zeroCells z.cells (newCap-(sLen+n)))=vals f old++vals f new++Builtin.zeroCells z.cells (newCap-(sLen+n)):=by rw[show ∀a b,vals f _=vals f a++vals f b from fun a b=>by simp[vals],show ∀a b,vals f _=vals f a++vals f b from fun a b=>by simp[vals],MK f hc]
 refine ai (by have:=zD (P:=P) (f:=f) (K:=K) elem (old++new++Builtin.zeroCells z.cells (newCap-(sLen+n)));rwa[e] at this) ?_;rintro a _ rfl;exact ak (by simp[aJ])
theorem aib(d:bz P)(elem size)(base)(a c n)(x):aO P f K (aJ f) (app1 elem size base a c n x) (app1 elem size (base.map (addr f)) a c n (val f x)):=by
 unfold app1;refine ai (jM _) ?_;rintro _ i2 ⟨rfl,_⟩;refine dV (fun _=>Dies.rel ?_) (fun _=>aia d ..);refine .bind ?_ _;refine .after (QA _ _ _ _ _) fun b=>?_;split
 .exact .after Um fun _=>dM _
 exact dM _
theorem aic(d:bz P)(elem size)(base)(b c)(x):aO P f K (aJ f) (app0 elem size base b c x) (app0 elem size (base.map (addr f)) b c (val f x)):=by
 unfold app0;refine ai (VF _) ?_;rintro _ n rfl;refine dV (fun _=>?_) (fun _=>?_)
 .refine ai (sG _ _ _) ?_;rintro new _ rfl;cases base with
  |none=>simp[Option.map_none];exact ak (by simp[aJ])
  |some a=>
   refine ai (Q:=fun _ _=>True) ?_ ?_
   .have:=uS (P:=P) (f:=f) (K:=K) (a.add (b*size)) new.toList 0;rw[addr_add] at this;simpa[vals] using this
   rintro _ _ _;exact ak (by simp[aJ])
 refine ai (jM _) ?_;rintro _ i ⟨rfl,_⟩;exact dV (fun _=>Dies.rel (.bind (dA _) _)) (fun _=>aib d ..)
theorem ac3(e:bz P){ts}(c:ahU P ts)(t)(args):aO P f K (aJ f) (Builtin.append_ ts t args) (Builtin.append_ ts t (vals f args)):=by
 unfold Builtin.append_;simp only[jg];cases h0:ts[0]? with
 |none=>exact aF
 |some t0=>
  cases h1:args[0]? with
  |none=>exact aF
  |some s=>
   cases h2:args[1]? with
   |none=>exact aF
   |some x=>
    refine ai (aW _) ?_;rintro _ d ⟨rfl,_⟩;cases d with
    |slice elem=>
     cases s with
     |slice base a b=>
      simp only[bI];refine ai (iD _) ?_;rintro _ size ⟨rfl,_⟩;have key:=aic (f:=f) (K:=K) e elem size base a b x;cases g:ts[1]? with
      |none=>cases base<;>exact key
      |some t1=>
       refine ai (aW _) ?_;rintro _ d ⟨rfl,hd⟩;have hne:=fun k=>c t1 k g;cases d with
       |int k=>exact absurd hd (hne k)
       |_=>cases base<;>exact key
     |_=>exact aF
    |_=>exact aF
theorem ah9(ts)(t)(args):aO P f K (aJ f) (Builtin.copy_ ts t args) (Builtin.copy_ ts t (vals f args)):=by
 unfold Builtin.copy_;simp[jg];cases h0:ts[0]? with
 |none=>exact aF
 |some t0=>
  cases h1:args[0]? with
  |none=>exact aF
  |some s=>
   cases h2:args[1]? with
   |none=>exact aF
   |some x=>
    refine ai (aW _) ?_;rintro _ d ⟨rfl,_⟩;cases d with
    |slice elem=>
     cases s with
     |slice base sLen sCap=>
      simp[bI];refine ai (VF _) ?_;rintro _ n rfl;refine ai (iD _) ?_;rintro _ size ⟨rfl,_⟩;refine ai (sG _ _ _) ?_;rintro cells _ rfl;cases base with
      |none=>simp[Option.map_none];exact ak (by simp[aJ,goInt])
      |some a=>
      refine ai (Q:=fun _ _=>True) ?_ ?_
      .have:=uS (P:=P) (f:=f) (K:=K) a cells.toList 0;simpa[vals] using this
      rintro _ _ _;exact ak (by simp[aJ,goInt])
     |_=>exact aF
    |_=>exact aF
theorem ajN(ts)(h:∀t0,ts[0]?=some t0->∃e,P.underlying t0=some (.slice e))(t)(args):aO P f K (aJ f) (Builtin.cap_ ts t args) (Builtin.cap_ ts t (vals f args)):=by
 unfold Builtin.cap_;simp[jg];cases h0:ts[0]? with
 |none=>exact aF
 |some t0=>
  have⟨e,he⟩:=h t0 h0;cases h1:args[0]? with
  |none=>exact aF
  |some x=>
   refine ai (aW _) ?_;rintro _ d ⟨rfl,hd⟩;rw[he] at hd;obtain rfl:=aN hd;cases x with
   |slice a l c=>simp[bI];exact ak (by simp[aJ,goInt])
   |_=>exact aF
theorem Ti(h:bz P)(t)(len)(ps e)(hp:e=ps.map fun x=>(x.1,val f x.2)):aO P f K (aJ f) (Instr.buildSlice t len ps) (Instr.buildSlice t len e):=by
 subst hp;unfold Instr.buildSlice;refine ai (aW t) ?_;rintro _ d ⟨rfl,_⟩;cases d with
 |slice elem=>
  refine ai (iD _) ?_;rintro _ n ⟨rfl,_⟩;refine dV (fun _=>Dies.rel (.bind (dM _) _)) (fun _=>?_);have fin:∀z:Array ae,vals f _=(Array.range _).map _->Instr.fill (fun i=>some _) ((Array.range (len*n)).map (z[· % z.size]!)) (ps.toList.map fun x=>_)=(Instr.fill (fun i=>some _) _ ps.toList).map _:=fun z g=>by
   have:=En f (fun i=>some (i*n,n)) ps.toList ((Array.range (len*n)).map (z[· % z.size]!))
   rwa[g] at this
  simp only[DI];refine dV (fun h0=>?_) (fun _=>?_)
  .refine ai (ak (Q:=fun a b=>b=a/\a=#[]) ⟨rfl,rfl⟩) ?_
   rintro _ z ⟨rfl,rfl⟩;rw[fin #[] (by rw[h0];simp[vals])];cases Instr.fill (fun i=>some _) ((Array.range (len*n)).map fun x=>(#[]:Array ae)[x % (#[]:Array ae).size]!) ps.toList with
   |none=>exact aF
   |some c=>
   refine ai (zD elem c) ?_;rintro a _ rfl;exact ak (by simp[aJ])
  refine ai (kX h elem) ?_;rintro _ z ⟨rfl,hc⟩;refine ai (ak (Q:=fun a b=>b=a/\a=z.cells) ⟨rfl,rfl⟩) ?_;rintro _ z2 ⟨rfl,rfl⟩;rw[fin z.cells (Ci f hc _)];cases Instr.fill (fun i=>some (i*n,n)) ((Array.range (len*n)).map fun x=>z.cells[x % z.cells.size]!) ps.toList with
  |none=>exact aF
  |some c=>
  refine ai (zD elem c) ?_;rintro a _ rfl;exact ak (by simp[aJ])
 |_=>exact aF
theorem aa9(t)(r):aO P f K (aJ f) (Instr.makeMap t r) (Instr.makeMap t (r.map (val f))):=by
 have tail:aO P f K (aJ f) (newObj (.map #[] 0) >>= fun r=>pure (.map (some r))) (newObj (.map #[] 0) >>= fun r=>pure (.map (some r))):=by refine ai (wB rfl trivial (by simp[obj])) ?_;rintro a _ rfl;exact ak (by simp[aJ])
 unfold Instr.makeMap;cases r with
 |none=>exact tail
 |some h=>
  refine ai (aW t) ?_;rintro _ d ⟨rfl,_⟩;cases d with
  |map k e=>
  refine ai (Ht h) ?_;rintro _ n rfl;exact tail
  |_=>exact aF
theorem ry(b:Bool):∀(n:Nat) (t:aZ) (v:ae),SC P t->aO P f K (fun _ _:Unit=>True) (Instr.checkKey b n t v) (Instr.checkKey b n t (val f v))
|0,t,v,_=>aS
|n+1,t,v,ht=>by
 unfold Instr.checkKey;refine ai (aW t) ?_;rintro _ d ⟨rfl,hd⟩;have hi:=ht.inv hd;cases d<;>first
  |exact hi.elim
  |(cases v<;>exact ak trivial)
  |skip
 .cases v with
  |agg cs=>simp only[dG];simp only[Zi];refine ai (Q:=fun _ _=>True) (rC _ _ _ (fun i _ x y a=>?_) _ _ trivial) (fun _ _ _=>ak trivial);refine ai (iD _) ?_;rintro _ m ⟨rfl,_⟩;refine ai (qi _ _ _) ?_;rintro p _ rfl;refine ai (ry b n _ p hi) ?_;rintro _ _ _;exact ak trivial
  |_=>exact aF
 
 cases v with
 |agg cs=>
 simp only[dG];simp only[<-aav];refine ai (Q:=fun _ _=>True) (rC _ _ _ (fun g hg x y a=>?_) _ _ trivial) (fun _ _ _=>ak trivial);refine dV (fun _=>?_) (fun _=>ak trivial);refine ai (qi _ _ _) ?_;rintro p _ rfl;refine ai (ry b n g.type p (hi g (uz.1 hg))) ?_;rintro _ _ _;exact ak trivial
 |_=>exact aF
abbrev Ent(f:Nat->Nat)(es:List MapEntry):List MapEntry:=es.map (entry f)
theorem QK(d){a}(b)(h:mr a=true):Instr.sameNow d a b=none:=by cases d<;>cases a<;>first|(cases h;done)|rfl|(simp[Instr.sameNow])
theorem QJ(d)(a){b}(h:mr b=true):Instr.sameNow d a b=none:=by cases d<;>cases b<;>first|(cases h;done)|rfl|(simp[Instr.sameNow])
theorem Vw(f)(d)(a b):Instr.sameNow d (val f a) (val f b)=Instr.sameNow d a b:=by
 cases a with
 |iface t x=>rw[dh,QK d _ (qy t x _),QK d _ rfl]
 |_=>
  cases b with
  |iface t x=>rw[dh,QJ d _ (qy t x _),QJ d _ rfl]
  |_=>cases d<;>simp[Instr.sameNow]
theorem KN(f:Nat->Nat)(d:TypeDesc)(k:ae):∀(es:List MapEntry) (i:Nat),Instr.findNow d (val f k) (Ent f es) i=(Instr.findNow d k es i).map (fun r=>r.map fun x=>(x.1,val f x.2))
|[],i=>rfl
|e::es,i=>by
 simp only[Ent,fU,Instr.findNow];rw[show(entry f e).key=val f e.key from rfl,Vw];cases Instr.sameNow d k e.key with
 |none=>rfl
 |some b=>
  cases b with
  |true=>rfl
  |false=>exact KN f d k es (i+1)
abbrev RF(f:Nat->Nat):aB (Nat×ae)->aB (Nat×ae)->Prop:=fun a b=>b=a.map fun x=>(x.1,val f x.2)
theorem Hr(hf:yZ f)(hx:Fix P f)(a:aZ)(hk:SC P a)(k:ae):∀(es:List MapEntry) (i:Nat),aO P f K (RF f) (Instr.findAsking a k es i) (Instr.findAsking a (val f k) (Ent f es) i)
|[],i=>ak rfl
|e::es,i=>by simp only[Ent,fU,Instr.findAsking];refine ai (Td hf hx a k e.key hk) ?_;rintro _ b rfl;exact dV (fun _=>ak rfl) (fun _=>Hr hf hx a hk k es (i+1))
theorem D7(hf:yZ f)(hx:Fix P f)(a)(hk:SC P a)(k)(es):aO P f K (RF f) (Instr.findKey a k es) (Instr.findKey a (val f k) (Ent f es)):=by
 unfold Instr.findKey;refine ai (aW _) ?_;rintro _ d ⟨rfl,_⟩;rw[KN];cases Instr.findNow d k es 0 with
 |some r=>exact ak rfl
 |none=>exact Hr hf hx a hk k es 0
theorem tH(h:Mps.maps=true)(t)(x):Wj t x (val f x)=.iface t (if t<jT then val f x else x):=by
 unfold Wj;split
 .rfl
 exact Ext.none h t x
theorem SY(hm:Mps.maps=true)(hf:yZ f):∀(n) (a b),Instr.sameBits n (val f a) (val f b)=Instr.sameBits n a b:=by
 intro n;induction n with
 |zero=>
  intro a b;cases a<;>cases b<;>simp[dY,dK,dP,dw,bV,aK,bI,eU,gm,dL,cZ,dJ,dh,tH hm,dG,cO,Instr.sameBits]
  .rename_i x y;cases x<;>cases y<;>simp[PD hf]
  exact TC hf _ _
 |succ n d=>
  intro a b;cases a<;>cases b<;>simp only[dY,dK,dP,dw,bV,aK,bI,eU,gm,dL,cZ,dJ,dh,tH hm,dG,cO,Instr.sameBits,d]
  .rename_i x y;cases x<;>cases y<;>simp[PD hf]
  .exact TC hf _ _
  .rename_i t x u y;by_cases e:t=u
   .subst e;by_cases h:t<jT
    .rw[aY h,aY h,d]
    rw[aU h,aU h]
   rw[show(t==u)=false by simpa using e,Bool.false_and,Bool.false_and]
  rename_i x y;simp[zi];congr 1;rw[show(vals f x).toList=x.toList.map (val f) by simp[vals],show(vals f y).toList=y.toList.map (val f) by simp[vals]];generalize x.toList=l;generalize y.toList=m;induction l generalizing m with
  |nil=>simp
  |cons a l c=>
   cases m with
   |nil=>simp
   |cons b m=>simp[fU,List.zip_cons_cons,List.all_cons,d,c m]
theorem CU(hm:Mps.maps=true)(hf:yZ f)(a b):aO P f K (aJ f) (Instr.keyThatStays a b) (Instr.keyThatStays (val f a) (val f b)):=by unfold Instr.keyThatStays;rw[SY hm hf];refine dV (fun _=>ak rfl) (fun _=>?_);refine ai (qj _) ?_;rintro _ n rfl;refine ak ?_;split<;>rfl
def Xp(P:aH)(t:aZ):Prop:=Mps.maps=true/\∀k e,P.underlying t=some (.map k e)->SC P k
theorem wC(r){α β:Type}{Q}{g:Array MapEntry->Nat->Sem α}{g':Array MapEntry->Nat->Sem β}{a}
  (h:∀es c,aO P f K Q (g es c) (g' (es.map (entry f)) c)) :
  aO P f K Q (getObj r >>= fun o=>match o with|.map es c=>g es c|_=>stuck a) (getObj (f r) >>= fun o=>match o with|.map es c=>g' es c|_=>stuck a):=by
 refine ai (wE r) ?_;rintro o o' (⟨_,_,rfl⟩|hh)
 .cases o with
  |map es c=>exact h es c
  |_=>exact aF
 rcases hh.lone with⟨_,_,_,_,_,_,rfl⟩|⟨_,rfl⟩<;>exact aF
theorem acY(e:bz P)(hf:yZ f)(hx:Fix P f){t}(ht:Xp P t)(x i)(ok):aO P f K (aJ f) (Instr.lookup t x i ok) (Instr.lookup t (val f x) (val f i) ok):=by
 unfold Instr.lookup;refine ai (aW t) ?_;rintro _ d ⟨rfl,hd⟩;cases d with
 |map key elem=>
  have hk:=ht.2 key elem hd;cases x with
  |map o=>
   cases o with
   |none=>
    simp only[eU,Option.map_none];refine ai (ak (Q:=fun a b=>b=a/\a=#[]) ⟨rfl,rfl⟩) ?_;rintro _ _ ⟨rfl,rfl⟩;refine ai (ry _ _ _ _ hk) ?_;rintro _ _ _;refine ai (D7 hf hx key hk i []) ?_;rintro r _ rfl;cases r with
    |some y=>
    have⟨j,v⟩:=y;exact ai (ak (Q:=fun a b=>b=(val f a.1,a.2)) rfl) (by rintro⟨v,b⟩ _ rfl;exact ak (by dsimp[aJ];split<;>simp[vals]))
    |none=>
    refine ai (kX e _) ?_;rintro _ z ⟨rfl,hc⟩;exact ai (ak (Q:=fun a b=>b=(val f a.1,a.2)) (by rw[cu hc f])) (by rintro⟨v,b⟩ _ rfl;exact ak (by dsimp[aJ];split<;>simp[vals]))
   |some r=>
    simp only[eU,Option.map_some];refine wC r fun es c=>?_;refine ai (ak (Q:=fun a b=>b=a.map (entry f)/\a=es) ⟨rfl,rfl⟩) ?_;rintro _ _ ⟨rfl,rfl⟩;rename_i es;rw[show(es.map (entry f)).isEmpty=es.isEmpty by simp[Array.isEmpty]];refine ai (ry _ _ _ _ hk) ?_;rintro _ _ _;rw[DI];refine ai (D7 hf hx key hk i es.toList) ?_;rintro r _ rfl;cases r with
    |some y=>
    have⟨j,v⟩:=y;exact ai (ak (Q:=fun a b=>b=(val f a.1,a.2)) rfl) (by rintro⟨v,b⟩ _ rfl;exact ak (by dsimp[aJ];split<;>simp[vals]))
    |none=>
    refine ai (kX e _) ?_;rintro _ z ⟨rfl,hc⟩;exact ai (ak (Q:=fun a b=>b=(val f a.1,a.2)) (by rw[cu hc f])) (by rintro⟨v,b⟩ _ rfl;exact ak (by dsimp[aJ];split<;>simp[vals]))
  |_=>exact aF
 |_=>exact aF
theorem AX(es:Array MapEntry)(i)(g g')(h:∀e,g' (entry f e)=entry f (g e)):(es.map (entry f)).modify i g'=(es.modify i g).map (entry f):=by refine Array.ext (by simp) fun j h1 h2=>?_;simp[Array.getElem_modify,Array.getElem_map];split<;>simp[h]
theorem Wx(es:Array MapEntry)(i:Nat)(k):(((es.map (entry f))[i]?).map (·.key)).getD (val f k)=val f (((es[i]?).map (·.key)).getD k):=by simp[PY];cases es[i]?<;>rfl
theorem Kv(hf:yZ f)(hx:Fix P f){t}(ht:Xp P t)(m k x):aO P f K (fun _ _=>True) (Instr.mapUpdate t m k x) (Instr.mapUpdate t (val f m) (val f k) (val f x)):=by
 unfold Instr.mapUpdate;refine ai (aW t) ?_;rintro _ d ⟨rfl,hd⟩;cases d with
 |map key elem=>
  have hk:=ht.2 key elem hd;cases m with
  |map o=>
   cases o with
   |none=>simp[eU,Option.map_none];exact gq _
   |some r=>
    simp[eU,Option.map_some];refine wC r fun es c=>?_;refine ai (ry _ _ _ _ hk) ?_;rintro _ _ _;rw[DI];refine ai (D7 hf hx key hk k es.toList) ?_;rintro q _ rfl;cases q with
    |some y=>
    have⟨j,v⟩:=y;simp only[Option.map_some];rw[Wx];refine ai (CU ht.1 hf _ _) ?_;rintro k2 _ rfl;refine mP rfl trivial (fun _ _ _=>by simp) ?_;simp[obj];rw[AX];intro e;rfl
    |none=>
    refine mP rfl trivial (fun _ _ _=>by simp) ?_;simp[obj,entry]
  |_=>exact aF
 |_=>exact aF
theorem XP(b:bz P)(hf:yZ f)(hx:Fix P f){t}(ht:Xp P t)(m k):aO P f K (aJ f) (Instr.mapEntry t m k) (Instr.mapEntry t (val f m) (val f k)):=by
 unfold Instr.mapEntry;refine ai (aW t) ?_;rintro _ d ⟨rfl,hd⟩;cases d with
 |map key elem=>
  have hk:=ht.2 key elem hd;cases m with
  |map o=>
   cases o with
   |none=>simp[eU,Option.map_none];exact gq _
   |some r=>
    simp[eU,Option.map_some];refine wC r fun es c=>?_;refine ai (ry _ _ _ _ hk) ?_;rintro _ _ _;rw[DI];refine ai (D7 hf hx key hk k es.toList) ?_;rintro q _ rfl;cases q with
    |some y=>
    have⟨j,v⟩:=y;simp only[Option.map_some];rw[Wx];refine ai (CU ht.1 hf _ _) ?_;rintro a _ rfl;refine ai (mP (o':=.map ((es.map _).modify j fun e=>{e with key:=val f a}) c) rfl trivial (fun _ _ _=>by simp) ?_) ?_
    .simp[obj];rw[AX];intro e;rfl
    rintro _ _ _;refine ak ?_;simp[aJ,cO,vals,PY];cases es[j]?<;>simp[goInt,entry]
    |none=>
    refine ai (kX b _) ?_;rintro _ z ⟨rfl,hc⟩;refine ai (mP rfl trivial (fun _ _ _=>by simp) (by simp[obj,entry,cu hc f])) ?_;rintro _ _ _;exact ak (by simp[aJ,vals,goInt,cu hc f])
  |_=>exact aF
 |_=>exact aF
theorem Qs(es:Array MapEntry)(p)(h:∀e,p (entry f e)=p e):(es.map (entry f)).findIdx? p=es.findIdx? p:=by rw[Array.findIdx?_map];congr 1;funext e;exact h e
theorem Tf(t)(m s x):aO P f K (fun _ _=>True) (Instr.entryStore t m s x) (Instr.entryStore t (val f m) (val f s) (val f x)):=by
 unfold Instr.entryStore;cases m with
 |map o=>
  cases o with
  |none=>simp[eU,Option.map_none];exact aF
  |some r=>
   simp[eU,Option.map_some];refine wC r fun es c=>?_;refine ai (Ht s) ?_;rintro _ born rfl;rw[Qs es _ fun e=>rfl];cases es.findIdx? fun e=>(e.born:Int)==born with
   |none=>exact aS
   |some i=>
   refine mP rfl trivial (fun _ _ _=>by simp) ?_;simp[obj];rw[AX];intro e;rfl
 |_=>exact aF
theorem afO(t)(x):aO P f K (aJ f) (Instr.range t x) (Instr.range t (val f x)):=by
 unfold Instr.range;refine ai (aW t) ?_;rintro _ d ⟨rfl,_⟩;have tail:∀o,plain o=true->lI K o->aO P f K (aJ f) (newObj o >>= fun r=>pure (.pointer (some ⟨r,0,none⟩))) (newObj _ >>= fun r=>pure (.pointer (some ⟨r,0,none⟩))):=fun o hp hg=>by refine ai (wB hp hg rfl) ?_;rintro a _ rfl;exact ak (by simp[aJ,addr])
 cases d with
 |string=>
  cases x with
  |string s=>simp[bV];exact tail _ rfl trivial
  |_=>exact aF
 |map k e=>
  cases x with
  |map o=>
   cases o with
   |none=>simp[eU,Option.map_none];exact tail _ rfl trivial
   |some r=>
   simp[eU,Option.map_some];refine wC r fun es c=>?_;exact tail _ rfl trivial
  |_=>exact aF
 |_=>exact aF
theorem Bd(es:Array MapEntry)(p)(h:∀e,p (entry f e)=p e):(es.map (entry f)).filter p=(es.filter p).map (entry f):=by rw[Array.filter_map];congr 2;funext e;exact h e
theorem acb(es:Array MapEntry)(p)(h:∀e,p (entry f e)=p e):(es.map (entry f)).all p=es.all p:=by rw[Array.all_map];congr 1;funext e;exact h e
theorem ah6(it)(b)(t):aO P f K (aJ f) (Instr.next it b t) (Instr.next (val f it) b t):=by
 unfold Instr.next;have over:aO P f K (aJ f) (pure (.tuple #[.bool false])) (pure (.tuple #[.bool false])):=ak (by simp[aJ,vals]);cases it with
 |pointer o=>
  cases o with
  |none=>exact aF
  |some a=>
   have⟨r,off,spot⟩:=a;simp only[aK,Option.map_some,addr];cases off with
   |succ n=>exact aF
   |zero=>
    refine ai (wE r) ?_;rintro o o' (⟨_,_,rfl⟩|hh)
    .cases o with
     |stringIter s pos=>
      cases b with
      |false=>exact aF
      |true=>
      refine dV (fun _=>?_) (fun _=>over);refine ai (mP rfl trivial (fun _ _ _=>by simp) (by simp[obj])) ?_;rintro _ _ _;exact ak (by simp[aJ,vals,goInt])
     |mapIter m since seen last=>
      cases b with
      |true=>cases m<;>exact aF
      |false=>
       cases m with
       |none=>exact over
       |some m=>
        refine wC m fun es c=>?_;rw[acb es _ fun e=>rfl,Bd es _ fun e=>rfl,show(es.map (entry f)).isEmpty=es.isEmpty by simp[Array.isEmpty]];refine dV (fun _=>Dies.rel (.bind (dM _) _)) (fun _=>?_);generalize es.filter (fun e=>!seen.contains e.born)=left;rw[Bd left _ fun e=>rfl,Bd left _ fun e=>rfl,<-Array.map_append];generalize left.filter (fun e=>decide (e.born<since))=old;generalize left.filter (fun e=>decide (e.born>=since))=new;rw[show(old.map (entry f)).isEmpty=old.isEmpty by simp[Array.isEmpty],show((if old.isEmpty=true then _ else #[])++((old++new).map _).map some:Array _)=((if old.isEmpty=true then #[none] else #[])++(old++new).map some).map (Option.map (entry f)) by split<;>simp[Function.comp_def]]
        generalize (if old.isEmpty=true then #[none] else #[])++(old++new).map some=d
        rw[Array.size_map];refine ai (qj _) ?_;rintro n _ rfl;rw[PY];cases d[n]? with
        |none=>exact aF
        |some e=>
         cases e with
         |none=>exact over
         |some e=>
         refine ai (mP rfl trivial (fun _ _ _=>by simp) (by simp[obj,entry])) ?_;rintro _ _ _;exact ak (by simp[aJ,vals,entry])
     |_=>exact aF
    rcases hh.lone with⟨_,_,_,_,_,_,rfl⟩|⟨_,rfl⟩<;>exact aF
 |_=>exact aF
theorem afR(it):aO P f K (aJ f) (Instr.entry it) (Instr.entry (val f it)):=by
 unfold Instr.entry;cases it with
 |pointer o=>
  cases o with
  |none=>exact aF
  |some a=>
   have⟨r,off,spot⟩:=a;simp only[aK,Option.map_some,addr];cases off with
   |succ n=>exact aF
   |zero=>
    refine ai (wE r) ?_;rintro o o' (⟨_,_,rfl⟩|hh)
    .cases o with
     |mapIter m since seen last=>
      cases m with
      |none=>exact aF
      |some m=>
       simp only[obj,Option.map_some];cases seen.back? with
       |none=>exact aF
       |some b=>
        refine wC m fun es c=>?_;refine dV (fun _=>Dies.rel (.bind (dM _) _)) (fun _=>?_);rw[Array.find?_map];rw[show((fun e=>e.born==b) ∘ entry f)=fun e=>e.born==b from rfl];cases es.find? fun e=>e.born==b with
        |none=>exact aS
        |some e=>exact ak (by simp[aJ,vals,entry])
     |_=>exact aF
    rcases hh.lone with⟨_,_,_,_,_,_,rfl⟩|⟨_,rfl⟩<;>exact aF
 |_=>exact aF
def Gy(P:aH)(K:Kd)(g:aI):Prop:=K.fn g/\Fr.xP g=g/\∃fn,P.funcs[g]?=some fn/\fn.body.isNone=false/\(fn.name == "runtime.NumGoroutine")=false
theorem Fv{g}(hb:Gy P K g)(args):aO P f K (kR f K) (callFunc g args) (callFunc g (vals f args)):=by have⟨hk,_,fn,h1,h2,a⟩:=hb;unfold callFunc;refine jY ?_;rw[h1];simp[a,h2,tY,BF];exact ak ⟨rfl,rfl,hk⟩
theorem zH(l):aO P f K (fun a b=>b=loop f a/\K.code a.assign/\K.code a.body/\∀c,a.pending=some c->K.code c) (Instr.getLoop l) (Instr.getLoop (f l)):=by
 unfold Instr.getLoop;refine ai (wE l) ?_;rintro o o' (⟨h1,d,rfl⟩|hh)
 .cases o with
  |loop r=>exact ak ⟨rfl,d⟩
  |_=>exact aF
 rcases hh.lone with⟨_,_,_,_,_,_,rfl⟩|⟨_,rfl⟩<;>exact aF
theorem WG(f:Nat->Nat):∀(l:List (Nat×ae)) (tmps:Array ae),(l.map fun x=>(x.1,val f x.2)).foldl (fun tmps x=>tmps.setIfInBounds x.1 x.2) (vals f tmps)=vals f (l.foldl (fun tmps x=>tmps.setIfInBounds x.1 x.2) tmps)
|[],tmps=>rfl
|x::l,tmps=>by simp only[fU,List.foldl_cons,<-GK];exact WG f l _
theorem afK(l)(args):aO P f K (kR f K) (Instr.yield l args) (Instr.yield (f l) (vals f args)):=by
 unfold Instr.yield;refine ai (zH l) ?_;rintro r _ ⟨rfl,hk⟩;simp only[zi];refine dV (fun _=>Dies.rel ((dO _).bind _)) (fun _=>ak ⟨?_,rfl,hk.1,hk.2.1⟩);simp only[next,loop,Next.round.injEq,PX,mi];have a:r.params.zip (vals f args)=(r.params.zip args).map fun x=>(x.1,val f x.2):=by refine Array.ext (by simp) fun i h1 h2=>?_;simp[vals]
 have:=WG f (r.params.zip args).toList r.tmps;rw[<-DI,<-a,EW,EW] at this;exact this
theorem nK(f)(a b):vals f (a++b)=vals f a++vals f b:=by simp[vals]
def ahS(P:aH)(ts:Array aZ):Prop:=∃t0,ts[0]?=some t0/\(P.underlying t0=some .string\/(∃e,P.underlying t0=some (.slice e)) \/ ∃n e,P.underlying t0=some (.array n e))
theorem ajM{ts}(h:ahS P ts)(t)(args):aO P f K (aJ f) (Builtin.len_ ts t args) (Builtin.len_ ts t (vals f args)):=by
 have⟨t0,h0,b⟩:=h;unfold Builtin.len_;simp[jg,h0];cases h1:args[0]? with
 |none=>exact aF
 |some x=>
  refine ai (aW _) ?_;rintro _ d ⟨rfl,hd⟩;rcases b with h|⟨e,h⟩|⟨n,e,h⟩<;>(rw[h] at hd;obtain rfl:=aN hd)
  .cases x with
   |string s=>simp[bV];exact ak (by simp[aJ,goInt])
   |_=>exact aF
  .cases x with
   |slice a l c=>simp[bI];exact ak (by simp[aJ,goInt])
   |_=>exact aF
  exact ak (by simp[aJ,goInt])
theorem ah8(x y):aO P f K (aJ f) (Builtin.max2 x y) (Builtin.max2 (val f x) (val f y)):=by
 unfold Builtin.max2;split
 .simp[dK];exact ak (by simp[aJ])
 .simp[dP]
  split
  .refine ai (qj _) ?_;rintro n _ rfl;exact ak (by simp[aJ])
  .exact ak (by simp[aJ])
  .exact ak (by simp[aJ])
  exact ak (by simp[aJ])
 .simp[bV];refine ai (wz _ _ _) ?_;rintro v _ rfl;refine ai (NH v) ?_;rintro _ b rfl;exact ak (by simp[aJ])
 .exact aS
 .exact aS
 exact aF
theorem ah7(x y):aO P f K (aJ f) (Builtin.min2 x y) (Builtin.min2 (val f x) (val f y)):=by
 unfold Builtin.min2;split
 .simp[dK];exact ak (by simp[aJ])
 .simp[dP]
  split
  .refine ai (qj _) ?_;rintro n _ rfl;exact ak (by simp[aJ])
  .exact ak (by simp[aJ])
  .exact ak (by simp[aJ])
  exact ak (by simp[aJ])
 .simp[bV];refine ai (wz _ _ _) ?_;rintro v _ rfl;refine ai (NH v) ?_;rintro _ b rfl;exact ak (by simp[aJ])
 .exact aS
 .exact aS
 exact aF
theorem NF(g:ae->ae->Sem ae)(hg:∀x y,aO P f K (aJ f) (g x y) (g (val f x) (val f y))):∀(l:List ae) (x:ae),aO P f K (aJ f) (l.foldlM g x) ((l.map (val f)).foldlM g (val f x))
|[],x=>ak rfl
|y::l,x=>by simp only[fU,List.foldlM_cons];refine ai (hg x y) ?_;rintro z _ rfl;exact NF g hg l z
theorem ajK(ts)(t)(args):aO P f K (aJ f) (Builtin.min_ ts t args) (Builtin.min_ ts t (vals f args)):=by
 unfold Builtin.min_;rw[show(vals f args).toList=args.toList.map (val f) by simp[vals]];cases args.toList with
 |nil=>exact aF
 |cons x l=>exact NF _ ah7 l x
theorem ajL(ts)(t)(args):aO P f K (aJ f) (Builtin.max_ ts t args) (Builtin.max_ ts t (vals f args)):=by
 unfold Builtin.max_;rw[show(vals f args).toList=args.toList.map (val f) by simp[vals]];cases args.toList with
 |nil=>exact aF
 |cons x l=>exact NF _ ah8 l x
theorem Qz:Calm P K Instr.panicnil:=by
 unfold Instr.panicnil;refine Calm.bind (fun v es b=>?_) fun r=>?_
 .show NV K (v.sys .env).2;have:(v.sys .env).2.heap=v.heap:=by
   have key:∀{α:Type} (a:Ask α) (w:ay),(w.ask a).2.heap=w.heap:=fun a=>by
    induction a with
    |done a=>intro w;rfl
    |ask what range k ih=>
    intro w;simp[World.ask];split
    .exact ih _ _
    rw[ih]
   unfold World.sys;split
   .rfl
   rename_i r os w h;have:=key (Kernel.perform .env v.os) v;rw[h] at this;exact this
  unfold NV;rw[this];exact b
 split
 .exact Calm.bind vw fun _=>iE _
 exact rP _
theorem O3(x):Dies P K (Instr.panic x):=by
 unfold Instr.panic;cases x with
 |iface t v=>exact Iw _
 |nilIface=>
 refine .after Qz fun n=>?_;split
 .exact Iw _
 exact dA _
 |_=>exact dO _
def Am(P:aH)(b:Builtin)(ts:Array aZ):Prop:=
 match b with
 |.len=>ahS P ts
 |.append=>ahU P ts
 |.cap=>∀t0,ts[0]?=some t0->∃e,P.underlying t0=some (.slice e)
 |.min|.max|.panic|.copy=>True
 |_=>False
theorem abg(a:bz P){b ts}(h:Am P b ts)(t)(cs)(args):aO P f K (kR f K) (builtin b ts t cs args) (builtin b ts t cs (vals f args)):=by
 unfold builtin;cases b<;>first
  |exact h.elim
  |exact fC (ajM h t args)
  |exact fC (ac3 a h t args)
  |exact fC (ajN ts h t args)
  |exact fC (ah9 ts t args)
  |exact fC (ajK ts t args)
  |exact fC (ajL ts t args)
  |exact Dies.rel (.bind (O3 _) _)
def ahT(P:aH)(K:Kd):Target->Prop
|.nil=>True
|.builtin b ts _ _=>Am P b ts
|.fn (.func g) _=>Gy P K g
|.fn (.via _ _ g _) _=>Gy P K g
|.fn (.yield _) _=>True
|_=>False
theorem zG(a:bz P){t}(h:ahT P K t)(args):aO P f K (kR f K) (invoke t args) (invoke (target f t) (vals f args)):=by
 cases t with
 |nil=>exact Dies.rel (dA .nilDeref)
 |builtin b ts t cs=>exact abg a h t cs args
 |collected r=>exact h.elim
 |coroexit r=>exact h.elim
 |fn g c=>
  cases g with
  |func g=>simp[target,fn,invoke,<-nK,show Fr.xP g=g from h.2.1];exact Fv h _
  |method n=>exact h.elim
  |methodOf t n=>exact h.elim
  |via t path g p=>
   simp[target,fn,invoke,jg,show Fr.xP g=g from h.2.1];cases hx:args[0]? with
   |none=>exact aF
   |some x=>
   refine ai (Ql t x path p) ?_;rintro v _ rfl
   have:=Fv (f:=f) h (#[v]++args.extract 1 args.size)
   rw[nK] at this;simpa[vals,aaD] using this
  |yield l=>simp[target,fn,invoke];exact afK l args
theorem CW(g)(tmps)(params)(as body)(ha:K.code as)(hb:K.code body)(e):aO P f K (fun a b=>b=(f a.1,a.2.map (deferred f))/\∀d∈a.2,∃r,d.target=.collected r) (Instr.enterLoop g tmps params as body e) (Instr.enterLoop g (vals f tmps) params as body (e.map f)):=by
 unfold Instr.enterLoop;cases e with
 |some l=>
 refine ai (zH l) ?_;rintro r _ ⟨rfl,hk⟩;refine ai (ak (Q:=fun a b=>a=(r.defers,[])/\b=((loop f r).defers,[])) ⟨rfl,rfl⟩) ?_;rintro _ _ ⟨rfl,rfl⟩;dsimp only;refine ai (wB rfl ⟨ha,hb,fun c h=>by cases h⟩ rfl) ?_;rintro n _ rfl;exact ak ⟨rfl,fun d hd=>by cases hd⟩
 |none=>
 refine ai (wB rfl (fun d hd=>by cases hd) rfl) ?_;rintro n _ rfl;refine ai (ak (Q:=fun a b=>a=(n,[{target:=.collected n,args:=#[]}])/\b=(f n,[{target:=.collected (f n),args:=#[]}])) ⟨rfl,rfl⟩) ?_;rintro _ _ ⟨rfl,rfl⟩;dsimp only;refine ai (wB rfl ⟨ha,hb,fun c h=>by cases h⟩ rfl) ?_;rintro m _ rfl;exact ak ⟨by simp[deferred,target,vals],fun d hd=>⟨n,by obtain rfl:=eY.1 hd;rfl⟩⟩
theorem AP(l):aO P f K (fun _ _=>True) (Instr.beginRound l) (Instr.beginRound (f l)):=by unfold Instr.beginRound;refine ai (zH l) ?_;rintro r _ ⟨rfl,hk⟩;refine ai (mP rfl hk (fun _ _ _ h=>by cases h) rfl) ?_;rintro _ _ _;rw[show(loop f r).state=r.state from rfl];cases r.state<;>first|exact ak trivial|exact gq _
theorem NG(l)(j)(hj:∀c,j=some c->K.code c):aO P f K (aJ f) (Instr.endRound l j) (Instr.endRound (f l) j):=by unfold Instr.endRound;refine ai (zH l) ?_;rintro r _ ⟨rfl,hk⟩;refine ai (mP rfl ⟨hk.1,hk.2.1,hj⟩ (fun _ _ _ h=>by cases h) rfl) ?_;rintro _ _ _;exact ak (by simp[aJ])
theorem Jd(l):aO P f K (fun a b=>b=a/\∀c,a=some c->K.code c) (Instr.endLoop l) (Instr.endLoop (f l)):=by unfold Instr.endLoop;refine ai (zH l) ?_;rintro r _ ⟨rfl,hk⟩;refine dV (fun _=>Dies.rel (.bind (dA _) _)) (fun _=>?_);refine ai (mP rfl hk (fun _ _ _ h=>by cases h) rfl) ?_;rintro _ _ _;exact ak ⟨rfl,hk.2.2⟩
theorem CS(b):aO P f K (fun x y=>y=x.map (deferred f)/\∀d∈x,K.tgt d.target) (Instr.takeDeferred b) (Instr.takeDeferred (f b)):=by
 unfold Instr.takeDeferred;refine ai (wE b) ?_;rintro o o' (⟨h1,a,rfl⟩|hh)
 .cases o with
  |deferred ds=>
   cases ds with
   |none=>exact aF
   |some ds=>
   refine ai (mP rfl trivial (fun _ _ _ h=>by cases h) rfl) ?_;rintro _ _ _;exact ak ⟨rfl,a⟩
  |_=>exact aF
 rcases hh.lone with⟨_,_,_,_,_,_,rfl⟩|⟨_,rfl⟩<;>exact aF
theorem sJ:∀(l:List FieldStep) (t:aZ) (x:aB ae),aO P f K (fun a b=>match a,b with
 |.error r,.error s=>s=r
 |.ok p,.ok q=>q=(p.1,p.2.map (val f))
 |_,_=>False) (followBlind l t x) (followBlind l t (x.map (val f)))
|[],t,x=>ak rfl
|s::rest,t,x=>by
 unfold followBlind;refine ai (aW _) ?_;rintro _ d ⟨rfl,_⟩;cases d with
 |struct fields=>
  dsimp only;cases fields[s.index]? with
  |none=>exact aF
  |some g=>
   dsimp only;cases s.deref with
   |true=>
    cases x with
    |none=>exact ak rfl
    |some v=>
     cases v with
     |pointer o=>
      cases o with
      |none=>simp only[Option.map_some,aK,Option.map_none];exact ak rfl
      |some a=>
      simp only[Option.map_some,aK];exact sJ rest g.type none
     |_=>exact aF
   |false=>
    cases x with
    |none=>exact sJ rest g.type none
    |some v=>
     cases v with
     |agg cs=>
     simp only[Option.map_some,dG];refine ai (qi _ cs _) ?_;rintro b _ rfl;exact sJ rest g.type (some b)
     |_=>exact aF
 |_=>exact aF
theorem QO{t}(ht:P.types.size<=t)(x x')(name):∀n,aO P f K (fun a b=>b=a) (nilAhead n t x name) (nilAhead n t x' name)
|0=>ak rfl
|n+1=>by unfold nilAhead;refine .dies (yP fun i hi=>?_);rw[Jq ht hi];exact dO _
theorem Ny(e:bz P)(hm:Mps.maps=true):∀(n:Nat) (t:aZ) (x:ae) (name:String),aO P f K (fun a b=>b=a) (nilAhead n t x name) (nilAhead n t (val f x) name)
|0,_,_,_=>ak rfl
|n+1,t,x,name=>by
 unfold nilAhead;refine ai (jM t) ?_;rintro _ i ⟨rfl,_⟩;cases i.methods.find? (·.name==name) with
 |none=>exact aF
 |some m=>
  dsimp only;refine ai (sJ m.path.toList t (some x)) ?_;intro a b c;cases a with
  |error r=>
   cases b with
   |error s=>simp only at c;subst c;exact ak rfl
   |ok q=>simp only at c
  |ok p=>
   cases b with
   |error s=>simp only at c
   |ok q=>
    simp only at c;subst c;have⟨u,y⟩:=p;dsimp only;cases m.func with
    |none=>
     cases y with
     |none=>exact ak rfl
     |some v=>
      cases v with
      |iface t' v'=>
      simp only[Option.map_some,dh,tH hm];by_cases ht:t'<jT
      .rw[aY ht];exact Ny e hm n t' v' name
      rw[aU ht];exact QO (bM e.types (aaF ht)) _ _ _ n
      |nilIface=>simp only[Option.map_some,dJ];exact ak rfl
      |_=>exact aF
    |some h=>
     have⟨g,pr⟩:=h;cases pr with
     |true=>exact ak rfl
     |false=>
      dsimp only;refine ai (aW _) ?_;rintro _ d ⟨rfl,_⟩;cases d<;>first
       |exact ak rfl
       |(cases y with
         |none=>exact ak rfl
         |some v=>
          cases v with
          |pointer o=>cases o<;>(simp only[Option.map_some,aK,Option.map_none];exact ak rfl)
          |_=>simp only[Option.map_some,dY,dK,dP,dw,bV,bI,eU,gm,dL,cZ,dh,tH hm,dJ,dG,cO];exact ak rfl)
def U4(S:aI->Prop):Fn->Prop
|.yield _=>False
|.func g|.via _ _ g _=>S g
|_=>False
theorem ad9{S g}(h:U4 S g)(hS:∀x,S x->Fr.xP x=x)(f):fn f g=g:=by
 cases g with
 |yield l=>exact h.elim
 |func g=>simp[fn,hS g h]
 |via t p g b=>simp[fn,hS g h]
 |_=>exact h.elim
def afl(P:aH)(s d:aZ):Prop:=(∃k,P.underlying s=some (.int k))/\∃k,P.underlying d=some (.int k)
theorem abf{s d}(h:afl P s d)(x):aO P f K (aJ f) (convert s d x) (convert s d (val f x)):=by
 have⟨⟨k,h1⟩,k',h2⟩:=h;unfold convert;refine ai (aW _) ?_;rintro _ d1 ⟨rfl,c⟩;refine ai (aW _) ?_;rintro _ d2 ⟨rfl,a⟩;rw[h1] at c;rw[h2] at a;obtain rfl:=aN c;obtain rfl:=aN a;cases x with
 |int q n=>simp[dK];exact ak (by simp[aJ])
 |float q b=>
 simp[dP];unfold Conv.floatToInt;have any:aO P f K (aJ f) (choose (.floatToInt q b k') >>= fun n=>pure (Value.int k' (k'.wrap n))) (choose (.floatToInt q b k') >>= fun n=>pure (Value.int k' (k'.wrap n))):=by refine ai (qj _) ?_;rintro n _ rfl;exact ak (by simp[aJ])
 dsimp only;split
 .exact dV (fun _=>ak (by simp[aJ])) (fun _=>any)
 exact any
 |pointer o=>cases o<;>exact aS
 |_=>exact aS
def jK(P:aH)(c:Call):Prop:=
 match c.callee with
 |.builtin b=>Am P b c.argTypes
 |.value _=>True
 |.invoke ..=>False
def ahe(P:aH)(S:aI->Prop):Op->Prop
|.move _|.assign _|.pick .. | .alloc _|.box .. | .build .. | .load .. | .store .. | .unOp .. | .makeSlice .. | .slice ..
|.fieldAddr .. | .field .. | .indexAddr .. | .index .. | .extract .. | .panic _|.buildSlice .. | .makeMap .. | .entryStore .. | .range .. | .next .. | .entry _=>True
|.lookup t _ _ _|.mapUpdate t _ _ _|.insert t _ _ _|.mapEntry t _ _=>Xp P t
|.binOp op t _ _ _=>afm P op t
|.convert s d _=>afl P s d
|.makeInterface t _=>t<jT
|.nilCheck _=>Mps.maps=true
|.makeFunc g _ _=>U4 S g
|.call c=>jK P c
|_=>False
theorem XN(ρ)(c)(hc:jK P c)(t):aO P f K (fun a b=>b=deferred f a/\resolve ρ c t=pure a) (resolve ρ c t) (resolve (fun x=>val f (ρ x)) c t):=by
 unfold resolve;have e:c.args.map (fun x=>val f (ρ x))=vals f (c.args.map ρ):=by simp[vals]
 dsimp only;rw[e];cases d:c.callee with
 |builtin b=>exact ak ⟨by simp[deferred,target],rfl⟩
 |invoke recv name=>unfold jK at hc;rw[d] at hc;exact hc.elim
 |value g=>
  dsimp only;cases ρ g with
  |func g a b=>simp[dL,Deferred.ofValue,<-nK];exact ak ⟨rfl,rfl⟩
  |nilFunc=>simp[cZ,Deferred.ofValue];exact ak ⟨rfl,rfl⟩
  |_=>exact aF
def ahO(P:aH):Target->Prop
|.builtin b ts _ _=>Am P b ts
|.collected _|.coroexit _=>False
|_=>True
theorem MM{ρ c t d}(hc:jK P c)(h:resolve ρ c t=pure d):ahO P d.target:=by
 unfold resolve at h;unfold jK at hc;cases e:c.callee with
 |builtin b=>rw[e] at h hc;cases h;exact hc
 |invoke r n=>rw[e] at hc;exact hc.elim
 |value g=>
  rw[e] at h;dsimp only at h;cases hg:ρ g with
  |func g a b=>rw[hg] at h;cases h;trivial
  |nilFunc=>rw[hg] at h;cases h;trivial
  |_=>rw[hg] at h;cases h
def BG:ae->Prop
|.func (.method n) _ _|.func (.methodOf _ n) _ _=>Fr.mid n=n
|_=>True
theorem ac2{S}(hf:yZ f)(hx:Fix P f)(p:∀x,S x->Fr.xP x=x)(h:bz P)(ρ)(o)(z:∀x∈o.op.operands,BG (ρ x))(ho:ahe P S o.op)(hi:∀c d,o.op=.call c->resolve ρ c o.type=pure d->ahT P K d.target):aO P f K (kR f K) (execOp ρ o) (execOp (fun x=>val f (ρ x)) o):=by
 unfold execOp;cases j:o.op<;>rw[j] at ho<;>first|exact ho.elim|skip
 all_goals dsimp only
 case move x=>exact ak ⟨rfl,rfl,trivial⟩
 case assign x=>exact ak ⟨rfl,rfl,trivial⟩
 case pick c a b=>refine ai (NH (ρ c)) ?_;rintro _ b rfl;exact ak ⟨by simp[next];split<;>rfl,rfl,trivial⟩
 case alloc t=>exact fC (afV h t _)
 case box t x=>exact fC (ajO t _)
 case build t ps=>exact fC (afS h t _ _ (by simp[Function.comp_def]))
 case load t a=>exact fC (acZ t _)
 case store t a x=>exact Fq (aa7 t _ _)
 case unOp op t x=>exact fC (afL op _)
 case makeInterface t x=>exact fC (Lt ho _)
 case makeSlice t l c=>exact fC (VL h t _ _)
 case slice t x v hi u=>
  refine fC ?_
  have:=aa8 (P:=P) (f:=f) (K:=K) t (ρ x) (v.map ρ) (hi.map ρ) (u.map ρ)
  simpa[Option.map_map,Function.comp_def] using this
 case fieldAddr t x n=>exact fC (abb t _ n)
 case field t x n=>exact fC (afQ t _ n)
 case indexAddr t x i=>exact fC (aba t _ _)
 case index t x i=>exact fC (afP t _ _)
 case extract x n=>exact fC (abd _ n)
 case panic x=>exact fC (O3 _).rel
 case buildSlice t len ps=>exact fC (Ti h t len _ _ (by simp[Function.comp_def]))
 case makeMap t r=>
  refine fC ?_
  have:=aa9 (P:=P) (f:=f) (K:=K) t (r.map ρ)
  simpa[Option.map_map,Function.comp_def] using this
 case lookup t x i ok=>exact fC (acY h hf hx ho _ _ _)
 case mapUpdate t m k x=>exact Fq (Kv hf hx ho _ _ _)
 case insert t m k x=>exact Fq (Kv hf hx ho _ _ _)
 case mapEntry t m k=>exact fC (XP h hf hx ho _ _)
 case entryStore t m s x=>exact Fq (Tf t _ _ _)
 case range t x=>exact fC (afO t _)
 case next it b=>exact fC (ah6 _ _ _)
 case entry it=>exact fC (afR _)
 case convert s d x=>exact fC (abf ho _)
 case makeFunc g a b=>
  refine fC ?_
  have:=XQ (P:=P) (f:=f) (K:=K) g (a.map ρ) (b.map ρ)
  rw[ad9 ho p] at this;simpa[vals,Function.comp_def] using this
 case binOp op t x y yt=>refine fC ?_;refine ai (abe op t x y _ _ ho) ?_;rintro _ _ _;exact afT hf hx op t _ _ ho
 case call c=>refine ai (XN ρ c ho _) ?_;rintro d _ ⟨rfl,hd⟩;exact zG h (hi c d j hd) _
 case nilCheck x=>
  have e:=z x (by rw[j];simp[Op.operands]);cases q:ρ x with
  |pointer o=>
   cases o with
   |none=>exact gq _
   |some a=>simp only[aK,Option.map_some];exact ak ⟨by simp[next],rfl,trivial⟩
  |nilIface=>exact gq _
  |nilFunc=>exact gq _
  |func g a b=>
   cases g with
   |method name=>
    rw[q] at e;simp only[dL,fn,jg,show Fr.mid name=name from e];cases h0:a[0]? with
    |none=>simp only[Option.map_none];exact ak ⟨by simp[next,fn,show Fr.mid name=name from e],rfl,trivial⟩
    |some y=>
     cases y with
     |nilIface=>exact gq _
     |iface t w=>
     simp only[Option.map_some,dh,tH ho];refine jY ?_;refine ai (Q:=fun a b=>b=a) ?_ ?_
     .by_cases ht:t<jT
      .rw[aY ht];exact Ny h ho _ t w name
      rw[aU ht];exact QO (bM h.types (aaF ht)) _ _ _ _
     rintro _ r rfl;refine dV (fun _=>Dies.rel (.bind (dM _) _)) (fun _=>ak ⟨by simp[next,fn,tH ho,show Fr.mid name=name from e],rfl,trivial⟩)
     |_=>simp only[Option.map_some,dY,dK,dP,dw,bV,aK,bI,eU,gm,dL,cZ,dG,cO];exact ak ⟨by simp[next,fn,show Fr.mid name=name from e],rfl,trivial⟩
   |_=>simp only[dL,fn];exact ak ⟨by simp[next,fn],rfl,trivial⟩
  |_=>simp only[dY,dK,dP,dw,bV,bI,eU,gm,dh,tH ho,dG,cO];exact ak ⟨by simp[next,tH ho],rfl,trivial⟩
end
section
variable[Mps][Fr][Ext]{P:aH}{f:Nat->Nat}{S:aI->Prop}
def ed(P:aH)(S:aI->Prop):fH->Prop
|.const v=>dI v=true
|.global g=>g<P.globals.size
|.func g=>S g
|_=>True
def pG(P:aH)(S:aI->Prop)(o:bn):Prop:=ahe P S o.op/\∀x∈o.op.operands,ed P S x
def jB(P:aH)(S:aI->Prop):Code->Prop
|.region _ ops _=>∀o∈ops,pG P S o
|.seq a b=>jB P S a/\jB P S b
|.cond c a b=>ed P S c/\jB P S a/\jB P S b
|.block _ a|.loop a|.scope a=>jB P S a
|.rangeFunc g _ a b=>ed P S g/\jB P S a/\jB P S b
|_=>True
class jE where
 sp:bn->Prop
 nm:aI->Prop
instance(priority:=low) kD:jE:=⟨fun _=>False,fun _=>False⟩
def afe[jE](P:aH)(S:aI->Prop)(o:bn):Prop:=pG P S o\/jE.sp o
def qM[jE](P:aH)(S:aI->Prop):Code->Prop
|.region _ ops _=>∀o∈ops,afe P S o
|.seq a b=>qM P S a/\qM P S b
|.cond c a b=>ed P S c/\qM P S a/\qM P S b
|.block _ a|.loop a|.scope a=>qM P S a
|.rangeFunc g _ a b=>ed P S g/\jB P S a/\jB P S b
|_=>True
theorem jB.loose[jE]{c}(h:jB P S c):qM P S c:=by
 induction c with
 |region id ops d=>exact fun o ho=>.inl (h o ho)
 |seq a b i e=>exact⟨i h.1,e h.2⟩
 |cond c a b i e=>exact⟨h.1,i h.2.1,e h.2.2⟩
 |block id a ih=>exact ih h
 |loop a ih=>exact ih h
 |scope a ih=>exact ih h
 |rangeFunc g ps a b i e=>exact h
 |_=>exact trivial
def item(f:Nat->Nat):ig->ig
|.inRangeFunc l=>.inRangeFunc (f l)
|.endRangeFunc l=>.endRangeFunc (f l)
|.call d w r s=>.call (deferred f d) w r (vals f s)
|.extern r as=>.extern r (vals f as)
|x=>x
def Jj(f:Nat->Nat)(e:PanicEntry):PanicEntry:={e with v:=val f e.v}
def mode(f:Nat->Nat):FrameMode->FrameMode
|.panicking c=>.panicking (c.map (Jj f))
|x=>x
def frame(f:Nat->Nat)(fr:aC):aC:=
 {fn:=fr.fn,tmps:=vals f fr.tmps,todo:=fr.todo.map (item f),defers:=fr.defers.map (deferred f),mode:=mode f fr.mode,kind:=fr.kind,roundOf:=fr.roundOf.map f}
def uG(f:Nat->Nat)(g:dD):dD:=
 {frame:=frame f g.frame,callers:=g.callers.map (frame f),status:=g.status,dying:=g.dying,offers:=g.offers}
def iy[jE](P:aH)(S:aI->Prop):ig->Prop
|.code c|.inLoop c|.inScope c=>qM P S c
|.inRegion ops _=>∀o∈ops,afe P S o
|.call .. | .extern ..=>False
|_=>True
def BI[jE](P:aH)(S:aI->Prop)(fr:aC):Prop:=∀i∈fr.todo,iy P S i
def yD[jE](fr:aC):Prop:=fr.mode=.run->∀ops i rest k o,fr.todo=.inRegion ops (i::rest)::k->ops[i]?=some o->¬jE.sp o
theorem Dh(fr):@yD kD fr:=fun _ _ _ _ _ _ _ _ h=>h
variable[jE]
theorem fP(f):val f undef=undef:=by simp[undef,vals]
theorem pU(f)(tmps)(t):(vals f tmps).getD t undef=val f (tmps.getD t undef):=by
 simp[pq,jg];cases tmps[t]? with
 |none=>simp[fP]
 |some v=>rfl
theorem iU(hx:Fix P f)(a:∀x,S x->Fr.xP x=x)(fr){x}(h:ed P S x):(frame f fr).eval x=val f (fr.eval x):=by
 cases x with
 |tmp t=>exact pU f fr.tmps t
 |const v=>exact(cu h f).symm
 |global g=>simp[Frame.eval,addr,hx g h]
 |func g=>simp[Frame.eval,fn,vals,a g h]
theorem Xx(f)(tmps)(d)(v):vals f (tmps.setIfInBounds d v)=(vals f tmps).setIfInBounds d (val f v):=GK f tmps d v
theorem dQ(fr)(v)(hok:BI P S fr):(frame f fr).finish (val f v)=frame f (fr.finish v):=by
 unfold Frame.finish;cases a:fr.todo with
 |nil=>simp[frame,a]
 |cons i k=>
  have hi:=hok i (by rw[a];exact fZ ..);cases i with
  |inRegion ops todo=>
   cases todo with
   |nil=>simp[frame,a,item]
   |cons j rest=>
   simp[frame,a,fU,item];cases (ops[j]?).bind _<;>simp[Xx]
  |call d w r s=>exact hi.elim
  |extern r as=>exact hi.elim
  |_=>simp[frame,a,item]
theorem adt{ρ ρ':fH->ae}{xs:Array fH}(h:∀x∈xs,ρ' x=ρ x):xs.map ρ'=xs.map ρ:=jL h
theorem resolve_congr{ρ ρ'}(c)(t)(h:∀x∈c.operands,ρ' x=ρ x):resolve ρ' c t=resolve ρ c t:=by
 have ha:=adt fun x hx=>h x (by unfold Call.operands;exact BD.2 (.inr hx));unfold resolve;dsimp only;rw[ha];cases hc:c.callee with
 |builtin b=>rfl
 |invoke r n=>dsimp only;rw[h r (by unfold Call.operands;rw[hc];simp)]
 |value g=>dsimp only;rw[h g (by unfold Call.operands;rw[hc];simp)]
theorem execOp_congr{ρ ρ'}(o)(ho:ahe P S o.op)(h:∀x∈o.op.operands,ρ' x=ρ x):execOp ρ' o=execOp ρ o:=by
 unfold execOp;cases d:o.op<;>rw[d] at ho h<;>first|exact ho.elim|skip
 all_goals simp only[Op.operands] at h
 all_goals dsimp only
 case build t ps=>
  have:(ps.map fun x=>(x.1,ρ' x.2))=ps.map fun x=>_:=jL fun x hx=>by rw[h x.2 (by simp;exact⟨x.1,by simpa using hx⟩)]
  rw[this]
 case slice t x lo hi i=>
  rw[h x (by simp)];have e:∀(o),(∀y,o=some y->ρ' y=ρ y)->o.map ρ'=o.map ρ:=fun o ho=>by cases o<;>simp[ho]
  rw[e lo (fun y hy=>h y (by subst hy;simp)),e hi (fun y hy=>h y (by subst hy;simp)),e i (fun y hy=>h y (by subst hy;simp))]
 case makeFunc g a b=>rw[adt (fun x hx=>h x (by simp[hx])),adt (fun x hx=>h x (by simp[hx]))]
 case call c=>rw[resolve_congr c _ h]
 case buildSlice t n ps=>
  have:(ps.map fun x=>(x.1,ρ' x.2))=ps.map fun x=>_:=jL fun x hx=>by rw[h x.2 (by simp;exact⟨x.1,by simpa using hx⟩)]
  rw[this]
 case makeMap t r=>
  have e:r.map ρ'=r.map ρ:=by cases r<;>simp at h⊢;exact h
  rw[e]
 all_goals (try rfl)
 all_goals (simp at h;simp[h])
end
section
variable[Mps][Fr][Ext][jE]{P:aH}{f:Nat->Nat}{S:aI->Prop}
theorem lq(P)(g)(f)(es):seen P g (es.map (event f))=(seen P g es).map (event f):=by
 unfold seen;dsimp only;rw[<-EW,<-EW,DI];generalize (P.funcs[g]?).any _=c;have key:∀(l:List Event) (q) (kept),(l.map (event f)).foldl (fun(x) e=>match e.loc with|.mark (.extern h)=>((P.funcs[h]?).any (·.norace),x.2)|_=>(x.1,if x.1 && !e.sync then x.2 else x.2.push e)) (q,kept.map (event f)) =
   ((l.foldl (fun(x) e=>match e.loc with|.mark (.extern h)=>((P.funcs[h]?).any (·.norace),x.2)|_=>(x.1,if x.1 && !e.sync then x.2 else x.2.push e)) (q,kept)).1,(l.foldl (fun(x:Bool×Array Event) e=>match e.loc with|.mark (.extern h)=>((P.funcs[h]?).any (·.norace),x.2)|_=>(x.1,if x.1 && !e.sync then x.2 else x.2.push e)) (q,kept)).2.map (event f)):=by
  intro l;induction l with
  |nil=>intro q kept;rfl
  |cons e l b=>
   intro q kept;have⟨lc,wr,sy⟩:=e;have fin:∀e,(l.map (event f)).foldl (fun(x:Bool×Array Event) e=>match e.loc with|.mark (.extern h)=>((P.funcs[h]?).any (·.norace),x.2)|_=>(x.1,if x.1 && !e.sync then x.2 else x.2.push e)) (q,if q && !e.sync then kept.map (event f) else(kept.map (event f)).push (event f e)) =
     ((l.foldl (fun(x:Bool×Array Event) e=>match e.loc with|.mark (.extern h)=>((P.funcs[h]?).any (·.norace),x.2)|_=>(x.1,if x.1 && !e.sync then x.2 else x.2.push e)) (q,if q && !e.sync then kept else kept.push e)).1,(l.foldl (fun(x:Bool×Array Event) e=>match e.loc with|.mark (.extern h)=>((P.funcs[h]?).any (·.norace),x.2)|_=>(x.1,if x.1 && !e.sync then x.2 else x.2.push e)) (q,if q && !e.sync then kept else kept.push e)).2.map (event f)):=fun e=>by
    cases hb:(q && !e.sync) with
    |true=>exact b q kept
    |false=>
    have:=b q (kept.push e);rw[Array.map_push] at this;exact this
   cases lc with
   |mark m=>
    cases m with
    |extern h=>exact b _ _
    |acquire a=>exact fin ⟨.mark (.acquire a),wr,sy⟩
    |release a=>exact fin ⟨.mark (.release a),wr,sy⟩
    |releaseMerge a=>exact fin ⟨.mark (.releaseMerge a),wr,sy⟩
    |disable=>exact fin ⟨.mark .disable,wr,sy⟩
    |enable=>exact fin ⟨.mark .enable,wr,sy⟩
    |read a=>exact fin ⟨.mark (.read a),wr,sy⟩
    |write a=>exact fin ⟨.mark (.write a),wr,sy⟩
    |noRoom=>exact fin ⟨.mark .noRoom,wr,sy⟩
   |cell a=>exact fin ⟨.cell a,wr,sy⟩
   |obj r=>exact fin ⟨.obj r,wr,sy⟩
   |output=>exact fin ⟨.output,wr,sy⟩
   |goroutines=>exact fin ⟨.goroutines,wr,sy⟩
 have:=key es.toList c #[];simp only[DJ] at this;exact bU Prod.snd this
theorem Dq(f:Nat->Nat)(id:Nat):∀(k:List ig),exitTo id (k.map (item f))=(exitTo id k).map (·.map (item f))
|[]=>rfl
|i::k=>by
 cases i with
 |inBlock id'=>
 simp only[fU,item,exitTo];split
 .rfl
 exact Dq f id k
 |_=>simp only[fU,item,exitTo];exact Dq f id k
theorem Dp(f:Nat->Nat)(l:Nat):∀(k:List ig),gotoIn l (k.map (item f))=(gotoIn l k).map (·.map (item f))
|[]=>rfl
|i::k=>by
 cases i with
 |inScope body=>
  simp only[fU,item,gotoIn];cases findLabel body l with
  |none=>exact Dp f l k
  |some rest=>rfl
 |_=>simp only[fU,item,gotoIn];exact Dp f l k
theorem gz(f)(ops)(tmps):yielded ops (vals f tmps)=yielded ops tmps:=by
 funext j;unfold yielded;cases (ops[j]?).bind _ with
 |none=>rfl
 |some d=>
  simp[Option.bind_some,jg];cases tmps[d]? with
  |none=>rfl
  |some v=>
   cases v with
   |iface t x=>
    have e:∀y,mr y=true->(match(some y) with|some (.bool b)=>some b|_=>none)=(none):=fun y hy=>by cases y<;>first|(cases hy;done)|rfl
    simp[Option.map_some,dh];exact(e _ (qy t x _)).trans rfl
   |_=>simp
theorem Ep{id:Nat}:∀{k k':List ig},(∀i∈k,iy P S i)->exitTo id k=some k'->∀i∈k',iy P S i
|[],_,_,h=>by cases h
|i::k,k',hk,h=>by
 cases i with
 |inBlock id'=>
 simp only[exitTo] at h;split at h
 .obtain rfl:=aN h;exact fun i hi=>hk i (jy _ hi)
 exact Ep (fun i hi=>hk i (jy _ hi)) h
 |_=>exact Ep (fun i hi=>hk i (jy _ hi)) h
theorem Uf{l}:∀{c c'},qM P S c->findLabel c l=some c'->qM P S c':=by
 intro c;induction c with
 |seq a b d ihb=>
 intro c' hc h;simp[findLabel] at h;split at h
 .rename_i rest hr;obtain rfl:=aN h;exact⟨d hc.1 hr,hc.2⟩
 exact ihb hc.2 h
 |label l'=>
 intro c' hc h;simp only[findLabel] at h;split at h
 .obtain rfl:=aN h;trivial
 cases h
 |_=>intro c' hc h;cases h
theorem Ej{l:Nat}:∀{k k':List ig},(∀i∈k,iy P S i)->gotoIn l k=some k'->∀i∈k',iy P S i
|[],_,_,h=>by cases h
|i::k,k',hk,h=>by
 have a:∀i∈k,iy P S i:=fun i hi=>hk i (jy _ hi);cases i with
 |inScope body=>
 have hb:qM P S body:=hk _ (fZ ..);simp only[gotoIn] at h;split at h
 .rename_i rest hr;obtain rfl:=aN h;intro i hi;rcases dW.1 hi with rfl|hi
  .exact Uf hb hr
  rcases dW.1 hi with rfl|hi
  .exact hb
  exact a i hi
 exact Ej a h
 |_=>exact Ej a h
end
end Go.Ren
