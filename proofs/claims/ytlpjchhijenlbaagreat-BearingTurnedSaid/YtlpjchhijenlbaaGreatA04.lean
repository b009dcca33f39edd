/- Of the proof of BearingTurned: Ren7 Ren8 Ren9 Ren10 RenA RenB RenC RenD RenE Ren11 -/
import Derived.Laws.Sem
import Derived.Test.YtlpjchhijenlbaaGreatA02
set_option linter.unusedSectionVars false
set_option linter.unusedVariables false
set_option linter.unusedSimpArgs false
section
section
namespace Go
namespace Ren
variable [Fr]
variable {P:Program} {f:Nat→Nat} {K:Kd}
theorem CG {α β:Type} (g:α→Sem β) (h:∀ a,ak P f K (fun x y=>y=x) (g a) (g a)) :
  ∀ l:List α,ak P f K (fun x y=>y=x) (l.mapM g) (l.mapM g)
 | []=>by simp only [List.mapM_nil];exact af rfl
 | a::l=>by
  simp only [List.mapM_cons]
  refine ae (h a) ?_
  rintro _ x rfl
  refine ae (CG g h l) ?_
  rintro _ xs rfl
  exact af rfl
theorem KZ {α β:Type} (g:α→Sem β) (h:∀ a,ak P f K (fun x y=>y=x) (g a) (g a)) (as:Array α):ak P f K (fun x y=>y=x) (as.mapM g) (as.mapM g):=by
 rw [Array.mapM_eq_mapM_toList,map_eq_pure_bind]
 refine ae (CG g h as.toList) ?_
 rintro _ x rfl
 exact af rfl
theorem yc (f:Nat→Nat) (place:Nat→Option (Nat × Nat)):∀ (ps:List (Nat × Value)) (cells:Array Value),
  Instr.fill place (vals f cells) (ps.map fun x=>(x.1,val f x.2))=(Instr.fill place cells ps).map (vals f)
 | [],cells=>rfl
 | (i,v)::rest,cells=>by
  simp only [List.map_cons,Instr.fill]
  cases place i with
  | none=>rfl
  | some x=>
   obtain ⟨off,size⟩:=x
   simp only [Gn,oZ]
   split
   ·rfl
   ·rw [uk]
    have key:∀ (l:List (Value × Nat)) (c:Array Value),(l.map fun x=>(val f x.1,x.2)).foldl (fun cs x=>cs.setIfInBounds (off+x.2) x.1) (vals f c)=vals f (l.foldl (fun cs x=>cs.setIfInBounds (off+x.2) x.1) c):=by
     intro l
     induction l with
     | nil=>intro c;rfl
     | cons a l ih=>intro c;simp only [List.map_cons,List.foldl_cons,← zt];exact ih _
    have e1:(vals f v.cells).zipIdx=v.cells.zipIdx.map fun x=>(val f x.1,x.2):=by
     refine Array.ext (by simp) fun i h1 h2=>?_
     simp [vals]
    have e2:(vals f v.cells).zipIdx.foldl (fun cs x=>cs.setIfInBounds (off+x.2) x.1) (vals f cells)=vals f (v.cells.zipIdx.foldl (fun cs x=>cs.setIfInBounds (off+x.2) x.1) cells):=by
     rw [e1,← Array.foldl_toList,← Array.foldl_toList,Array.toList_map]
     exact key _ _
    have:=yc f place rest (v.cells.zipIdx.foldl (fun cs x=>cs.setIfInBounds (off+x.2) x.1) cells)
    rw [←e2] at this
    exact this
theorem Xo (hz:aN P) (t:TypeId) (ps ps':Array (Nat × Value)) (hp:ps'=ps.map fun x=>(x.1,val f x.2)):ak P f K (aj f) (Instr.build t ps) (Instr.build t ps'):=by
 subst hp
 unfold Instr.build
 refine ae (iJ hz t) ?_
 rintro _ z ⟨rfl,hc⟩
 have hzc:=DZ hc f
 refine ae (aB t) ?_
 rintro _ d ⟨rfl,_⟩
 cases d with
 | struct fields=>
  refine ae (KZ _ (fun g=>?_) fields) ?_
  ·refine ae (eP _) ?_
   rintro _ n ⟨rfl,_⟩
   exact af rfl
  ·rintro _ places rfl
   have:=yc f (places[·]?) ps.toList z.cells
   rw [hzc] at this
   simp only [Array.toList_map]
   rw [this]
   cases Instr.fill (places[·]?) z.cells ps.toList with
   | none=>exact ah
   | some c=>exact af (by simp [aj])
 | array n elem=>
  refine ae (eP _) ?_
  rintro _ n ⟨rfl,_⟩
  have:=yc f (fun i=>some (i*n,n)) ps.toList z.cells
  rw [hzc] at this
  simp only [Array.toList_map]
  rw [this]
  cases Instr.fill (fun i=>some (i*n,n)) z.cells ps.toList with
  | none=>exact ah
  | some c=>exact af (by simp [aj])
 | _=>exact ah
theorem IM (hf:rU f) (a b:Nat):(f a==f b)=(a==b):=by
 rw [Bool.eq_iff_iff,beq_iff_eq,beq_iff_eq]
 exact ⟨hf a b,fun e=>by rw [e]⟩
theorem Gx (hf:rU f) (a b:Addr):(addr f a==addr f b)=(a==b):=by
 rw [Bool.eq_iff_iff,beq_iff_eq,beq_iff_eq]
 refine ⟨fun e=>?_,fun e=>by rw [e]⟩
 cases a;cases b
 simp only [addr,Addr.mk.injEq] at e ⊢
 exact ⟨hf _ _ e.1,e.2⟩
theorem Jp (hf:rU f) (a b:Option Nat):(a.map f==b.map f)=(a==b):=by
 rw [Bool.eq_iff_iff,beq_iff_eq,beq_iff_eq]
 refine ⟨fun e=>?_,fun e=>by rw [e]⟩
 cases a<;>cases b<;>simp only [Option.map_some,Option.map_none,Option.some.injEq,reduceCtorEq] at e ⊢
 exact hf _ _ e
inductive IY (P:Program):TypeId→Prop
 | flat {t:TypeId} {d:TypeDesc} (h:P.underlying t=some d) (hd:match d with | .bool | .int _ | .float _ | .complex _ | .string | .chan .. | .slice _ | .map .. | .func ..=>True | _=>False):IY P t
 | struct {t:TypeId} {fs:Array Field} (h:P.underlying t=some (.struct fs)) (hs:∀ g∈fs,IY P g.type):IY P t
 | array {t:TypeId} {n:Nat} {e:TypeId} (h:P.underlying t=some (.array n e)) (hs:IY P e):IY P t
theorem IY.inv {t:TypeId} {d:TypeDesc} (h:IY P t) (hd:P.underlying t=some d):match d with
  | .bool | .int _ | .float _ | .complex _ | .string | .chan .. | .slice _ | .map .. | .func ..=>True
  | .struct fs=>∀ g∈fs,IY P g.type
  | .array _ e=>IY P e
  | _=>False:=by
 cases h with
 | flat h hd'=>rw [h] at hd;obtain rfl:=Option.some.inj hd;split at hd'<;>first | trivial | cases hd'
 | struct h hs=>rw [h] at hd;obtain rfl:=Option.some.inj hd;exact hs
 | array h hs=>rw [h] at hd;obtain rfl:=Option.some.inj hd;exact hs
theorem mM {α β:Type} {R:β→β→Prop} (g g':α→β→Sem (ForInStep β)) :
  ∀ (l:List α),(∀ a∈l,∀ x y,R x y→ak P f K (fun s t=>match s,t with | .done x,.done y=>R x y | .yield x,.yield y=>R x y | _,_=>False) (g a x) (g' a y)) →
   ∀ (x y:β),R x y→ak P f K R (forIn l x g) (forIn l y g')
 | [],_,x,y,hr=>by simp only [List.forIn_nil];exact af hr
 | a::l,h,x,y,hr=>by
  simp only [List.forIn_cons]
  refine ae (h a (List.mem_cons_self ..) x y hr) ?_
  intro s t hst
  cases s<;>cases t<;>simp only at hst
  ·exact af hst
  ·exact mM g g' l (fun b hb=>h b (List.mem_cons_of_mem _ hb)) _ _ hst
theorem Bz (hf:rU f) (hx:Fix P f):∀ (d:Nat) (t:TypeId) (x y:Value),IY P t→ak P f K (fun a b=>b=a) (Op.equalIn d t x y) (Op.equalIn d t (val f x) (val f y))
 | 0,t,x,y,_=>az
 | d+1,t,x,y,ht=>by
  unfold Op.equalIn
  refine ae (aB t) ?_
  rintro _ D ⟨rfl,hD⟩
  split
  ·simp only [dI];exact af rfl
  ·simp only [bV];exact bz (fun _=>af rfl) (fun _=>ah)
  ·simp only [bV,ay,Option.map_some];exact af rfl
  ·simp only [bV,ay,Option.map_some];exact af rfl
  ·simp only [ay,Option.map_some]
   refine ae (iy _) ?_
   rintro ⟨a,l⟩ _ rfl
   refine ae (iy _) ?_
   rintro ⟨b,l'⟩ _ rfl
   dsimp only
   refine iw ?_
   have h1:((addr f a).block==(addr f b).block)=(a.block==b.block):=IM hf _ _
   have h2:decide ((addr f a).block<P.globals.size)=decide (a.block<P.globals.size):=decide_eq_decide.2 (Fix.lt hf hx _)
   rw [h1,h2]
   refine bz (fun _=>?_) (fun _=>?_)
   ·refine ae (qg _) ?_
    rintro _ m rfl
    refine ae (qg _) ?_
    rintro _ n rfl
    exact af rfl
   ·refine ae (gQ t) ?_
    rintro _ i ⟨rfl,_⟩
    split
    ·rw [Gx hf]
     exact bz (fun _=>af rfl) (fun _=>az)
    ·exact az
  ·exact az
  ·exact az
  ·simp only [bZ];exact bz (fun _=>af rfl) (fun _=>ah)
  ·simp only [bn];exact bz (fun _=>af rfl) (fun _=>ah)
  ·simp only [aS];exact af rfl
  ·exact (ht.inv hD).elim
  ·exact (ht.inv hD).elim
  ·exact (ht.inv hD).elim
  ·exact (ht.inv hD).elim
  ·simp only [eX,Jp hf];exact af rfl
  ·exact (ht.inv hD).elim
  ·exact (ht.inv hD).elim
  ·exact (ht.inv hD).elim
  ·exact (ht.inv hD).elim
  ·rename_i _ _ fs xs ys
   simp only [cO]
   refine iw ?_
   refine bz (fun _=>Dies.rel ((bf _).bind _)) (fun _=>?_)
   simp only [←Array.forIn_toList]
   refine ae (Q:=fun a b=>b=a) (mM _ _ fs.toList (fun g hg x y hxy=>?_) _ _ rfl) ?_
   ·subst hxy
    refine bz (fun _=>?_) (fun _=>?_)
    ·refine ae (lC _ _ _) ?_
     rintro p _ rfl
     refine ae (lC _ _ _) ?_
     rintro q _ rfl
     refine ae (Bz hf hx d g.type p q (ht.inv hD g (Array.mem_toList_iff.1 hg))) ?_
     rintro _ b rfl
     refine bz (fun _=>af ?_) (fun _=>af ?_)<;>trivial
    ·exact af (by trivial)
   ·rintro _ s rfl
    split<;>exact af rfl
  ·rename_i _ _ len elem xs ys
   simp only [cO]
   refine ae (eP _) ?_
   rintro _ n ⟨rfl,_⟩
   simp only [Std.Legacy.Range.forIn_eq_forIn_range']
   refine ae (Q:=fun a b=>b=a) (mM _ _ _ (fun i _ x y hxy=>?_) _ _ rfl) ?_
   ·subst hxy
    refine ae (lC _ _ _) ?_
    rintro p _ rfl
    refine ae (lC _ _ _) ?_
    rintro q _ rfl
    refine ae (Bz hf hx d elem p q (ht.inv hD)) ?_
    rintro _ b rfl
    refine bz (fun _=>af ?_) (fun _=>af ?_)<;>trivial
   ·rintro _ s rfl
    split<;>exact af rfl
  ·simp only [aW,Option.map_none];exact af (by simp)
  ·rename_i a1 n1 c1 m1 d1 _
   cases a1 with
   | none=>exfalso;simp_all
   | some a1=>simp only [aW,Option.map_none,Option.map_some];exact af rfl
  ·simp only [dC,Option.map_none];exact af (by simp)
  ·rename_i a1 _
   cases a1 with
   | none=>exfalso;simp_all
   | some a1=>simp only [dC,Option.map_none,Option.map_some];exact af rfl
  ·simp only [aZ];exact af rfl
  ·simp only [aZ,bP];exact af rfl
  ·simp only [aZ,bP];exact af rfl
  ·exact ah
theorem qW:∀ (d:Nat) (t:TypeId) (x y:Value),IY P t→ak P f K (fun a b=>b=a) (Op.eqGuardIn d t x y) (Op.eqGuardIn d t (val f x) (val f y))
 | 0,t,x,y,_=>az
 | d+1,t,x,y,ht=>by
  unfold Op.eqGuardIn
  refine ae (aB t) ?_
  rintro _ D ⟨rfl,hD⟩
  split
  ·exact (ht.inv hD).elim
  ·rename_i _ _ fs xs ys
   simp only [cO]
   simp only [←Array.forIn_toList]
   refine ae (Q:=fun a b=>b=a) (mM _ _ fs.toList (fun g hg x y hxy=>?_) _ _ rfl) ?_
   ·subst hxy
    refine bz (fun _=>?_) (fun _=>?_)
    ·refine ae (lC _ _ _) ?_
     rintro p _ rfl
     refine ae (lC _ _ _) ?_
     rintro q _ rfl
     refine ae (qW d g.type p q (ht.inv hD g (Array.mem_toList_iff.1 hg))) ?_
     rintro _ b rfl
     refine bz (fun _=>af ?_) (fun _=>af ?_)<;>trivial
    ·exact af (by trivial)
   ·rintro _ s rfl
    split<;>exact af rfl
  ·rename_i _ _ len elem xs ys
   simp only [cO]
   refine ae (eP _) ?_
   rintro _ n ⟨rfl,_⟩
   simp only [Std.Legacy.Range.forIn_eq_forIn_range']
   refine ae (Q:=fun a b=>b=a) (mM _ _ _ (fun i _ x y hxy=>?_) _ _ rfl) ?_
   ·subst hxy
    refine ae (lC _ _ _) ?_
    rintro p _ rfl
    refine ae (lC _ _ _) ?_
    rintro q _ rfl
    refine ae (qW d elem p q (ht.inv hD)) ?_
    rintro _ b rfl
    refine bz (fun _=>af ?_) (fun _=>af ?_)<;>trivial
   ·rintro _ s rfl
    split<;>exact af rfl
  ·rename_i h1 h2 h3
   split
   ·exact (ht.inv hD).elim
   ·rename_i e1 e2
    cases x<;>simp only [dI,bV,bZ,bn,aS,ay,aW,dC,eX,bP,aZ,bJ,bU,cO,bY,reduceCtorEq] at e1
    cases y<;>simp only [dI,bV,bZ,bn,aS,ay,aW,dC,eX,bP,aZ,bJ,bU,cO,bY,reduceCtorEq] at e2
    exact (h2 _ _ _ rfl rfl rfl).elim
   ·rename_i e1 e2
    cases x<;>simp only [dI,bV,bZ,bn,aS,ay,aW,dC,eX,bP,aZ,bJ,bU,cO,bY,reduceCtorEq] at e1
    cases y<;>simp only [dI,bV,bZ,bn,aS,ay,aW,dC,eX,bP,aZ,bJ,bU,cO,bY,reduceCtorEq] at e2
    exact (h3 _ _ _ _ rfl rfl rfl).elim
   ·exact af rfl
end Ren
end Go
end
end
section
section
namespace Go
namespace Ren
variable [Fr]
variable {P:Program} {f:Nat→Nat} {K:Kd}
theorem EH (op:BinOp) (k:IntKind) (x y:Int):ak P f K (aj f) (Op.intArith op k x y) (Op.intArith op k x y):=by
 unfold Op.intArith
 split<;>first | exact af (by simp [aj]) | exact ah
theorem Ui (op:BinOp) (k:IntKind) (x y:Int):ak P f K (aj f) (Op.intDiv op k x y) (Op.intDiv op k x y):=by
 unfold Op.intDiv
 refine bz (fun _=>dK _) (fun _=>?_)
 split<;>first | exact af (by simp [aj]) | exact ah
theorem Ig (op:BinOp) (k:IntKind) (x y:Int):ak P f K (aj f) (Op.intBits op k x y) (Op.intBits op k x y):=by
 unfold Op.intBits
 dsimp only
 split<;>first | exact af (by simp [aj]) | exact ah
theorem EG (op:BinOp) (x y:Int):ak P f K (aj f) (Op.intCmp op x y) (Op.intCmp op x y):=by
 unfold Op.intCmp
 split<;>first | exact af (by simp [aj]) | exact ah
theorem PY (op:BinOp) (k:IntKind) (x:Int) (yk:IntKind) (y:Int):ak P f K (aj f) (Op.shift op k x yk y) (Op.shift op k x yk y):=by
 unfold Op.shift
 refine bz (fun _=>dK _) (fun _=>?_)
 dsimp only
 split<;>first | exact af (by simp [aj]) | exact ah
theorem pX (op:BinOp) (x y:ByteArray):ak P f K (aj f) (Op.stringOp op x y) (Op.stringOp op x y):=by
 unfold Op.stringOp
 dsimp only
 split
 ·exact bz (fun _=>az) (fun _=>af (by simp [aj]))
 all_goals first | exact af (by simp [aj]) | exact ah
theorem Jf (hf:rU f) (hx:Fix P f) (t:TypeId) (x y:Value) (ht:IY P t):ak P f K (fun a b=>b=a) (Op.equal t x y) (Op.equal t (val f x) (val f y)):=Bz hf hx _ t x y ht
theorem Xh (op:UnOp) (x:Value):ak P f K (aj f) (Op.unary op x) (Op.unary op (val f x)):=by
 unfold Op.unary
 split
 ·simp only [bV];exact EH _ _ _ _
 ·simp only [bV];exact Ig _ _ _ _
 ·simp only [bZ];exact af (by simp [aj])
 ·simp only [bn];exact af (by simp [aj])
 ·simp only [dI];exact af (by simp [aj])
 ·exact az
 ·exact az
 ·exact ah
inductive Quiet (P:Program) {α:Type}:Sem α→Prop
 | pure (a:α):Quiet P (.pure a)
 | choose (q:Question) {k:Nat→Sem α} (h:∀ n,Quiet P (k n)):Quiet P (.choose q k)
 | program {k:Program→Sem α} (h:Quiet P (k P)):Quiet P (.program k)
 | halt (h:Halt) (hn:kJ h):Quiet P (.halt h)
theorem Quiet.bind {α β:Type} {s:Sem α} {g:α→Sem β} (h:Quiet P s) (hg:∀ a,Quiet P (g a)):Quiet P (s >>= g):=by
 show Quiet P (s.bind g)
 induction h with
 | pure a=>exact hg a
 | choose q _ ih=>exact .choose q ih
 | program _ ih=>exact .program ih
 | halt h hn=>exact .halt h hn
theorem Quiet.rel {α:Type} {s:Sem α} (h:Quiet P s):ak P f K (fun a b=>b=a) s s:=by
 induction h with
 | pure a=>exact .pure rfl
 | choose q _ ih=>exact .choose ih
 | program _ ih=>exact .program ih
 | halt h hn=>exact .halt hn
theorem gU {α:Type} (a:α):Quiet P (pure a):=.pure a
theorem xP {α:Type} (m:String):Quiet P (stuck m:Sem α):=.halt _ (oM m)
theorem EO (q:Question):Quiet P (choose q):=.choose q fun n=>.pure n
theorem Jj (op:BinOp) (k:FloatKind) (x y:Nat):Quiet P (Op.floatArith op k x y):=by
 unfold Op.floatArith
 cases op<;>(refine Quiet.bind (by first | exact gU _ | exact xP _) fun r=>?_)<;>(cases r<;>first | exact gU _ | exact Quiet.bind (EO _) fun _=>gU _)
theorem Oa (op:BinOp) (k:FloatKind) (x y:Nat):Quiet P (Op.floatCmp op k x y):=by
 unfold Op.floatCmp
 dsimp only
 split<;>first | exact gU _ | exact xP _
theorem EN (s:FloatKind) (b:Nat) (d:FloatKind):Quiet P (Conv.floatToFloat s b d):=by
 unfold Conv.floatToFloat
 split
 ·exact gU _
 ·split
  ·exact Quiet.bind (EO _) fun _=>gU _
  ·exact gU _
  ·dsimp only
   split
   ·exact Quiet.bind (EO _) fun _=>gU _
   ·exact gU _
theorem dU (op:BinOp) (k:FloatKind) (x y:Nat):Quiet P (Op.Complex.arith op k x y):=by
 unfold Op.Complex.arith
 refine Quiet.bind (Jj _ _ _ _) fun v=>?_
 split<;>first | exact gU _ | exact xP _
theorem Un (v:Value):Quiet P (asBool v):=by
 unfold asBool
 split<;>first | exact gU _ | exact xP _
theorem Lh (op:BinOp) (k:FloatKind) (x y:Nat):Quiet P (Op.Complex.cmp op k x y):=Quiet.bind (Oa _ _ _ _) fun v=>Un v
theorem BC (s:FloatKind) (x:Nat) (d:FloatKind):Quiet P (Op.Complex.conv s x d):=by
 unfold Op.Complex.conv
 split
 ·exact gU _
 ·refine Quiet.bind (EN _ _ _) fun v=>?_
  split<;>first | exact gU _ | exact xP _
theorem Rn (a b c d:Nat):Quiet P (Op.Complex.product a b c d):=by
 unfold Op.Complex.product Op.Complex.sub Op.Complex.mul Op.Complex.add
 repeat' (first | exact gU _ | exact dU _ _ _ _ | refine Quiet.bind ?_ fun _=>?_)
theorem CP (s a b c d:Nat):Quiet P (Op.Complex.corrected s a b c d):=by
 unfold Op.Complex.corrected Op.Complex.sub Op.Complex.mul Op.Complex.add
 repeat' (first | exact gU _ | exact dU _ _ _ _ | refine Quiet.bind ?_ fun _=>?_)
theorem Ld {α:Type} {c:Prop} [Decidable c] {a b:Sem α} (h:Quiet P a) (h':Quiet P b):Quiet P (if c then a else b):=by split<;>assumption
theorem Ul (a b c d e g:Nat):Quiet P (Op.Complex.cmp .eql .f64 c 0 >>= fun x=>Op.Complex.cmp .eql .f64 d 0 >>= fun y=>
  if (!(Op.Complex.isNaN e&&Op.Complex.isNaN g))=true then pure (e,g) else
  if ((x&&y)&&(!Op.Complex.isNaN a || !Op.Complex.isNaN b))=true then (Op.Complex.mul (Op.Complex.copysign Op.Complex.inf c) a >>= fun r=>Op.Complex.mul (Op.Complex.copysign Op.Complex.inf c) b >>= fun s=>pure (r,s)) else
  if ((Op.Complex.isInf a || Op.Complex.isInf b)&&Op.Complex.isFinite c&&Op.Complex.isFinite d)=true then Op.Complex.corrected Op.Complex.inf (Op.Complex.inf2one a) (Op.Complex.inf2one b) c d else
  if ((Op.Complex.isInf c || Op.Complex.isInf d)&&Op.Complex.isFinite a&&Op.Complex.isFinite b)=true then Op.Complex.corrected 0 a b (Op.Complex.inf2one c) (Op.Complex.inf2one d) else pure (e,g)):=
 .bind (Lh _ _ _ _) fun _=>.bind (Lh _ _ _ _) fun _=>Ld (gU _) (Ld (.bind (dU _ _ _ _) fun _=>.bind (dU _ _ _ _) fun _=>gU _) (Ld (CP _ _ _ _ _) (Ld (CP _ _ _ _ _) (gU _))))
theorem N9 (a b c d:Nat):Quiet P (Op.Complex.quotient a b c d):=by
 unfold Op.Complex.quotient
 dsimp only
 refine .bind (Lh _ _ _ _) fun t=>?_
 refine Ld ?_ ?_
 ·refine .bind (dU _ _ _ _) fun _=>.bind (dU _ _ _ _) fun _=>.bind (dU _ _ _ _) fun _=>.bind (dU _ _ _ _) fun _=>.bind (dU _ _ _ _) fun _=>.bind (dU _ _ _ _) fun _=>.bind (dU _ _ _ _) fun _=>.bind (dU _ _ _ _) fun _=>.bind (dU _ _ _ _) fun _=>?_
  exact .bind (gU _) fun x=>Ul a b c d x.1 x.2
 ·refine .bind (dU _ _ _ _) fun _=>.bind (dU _ _ _ _) fun _=>.bind (dU _ _ _ _) fun _=>.bind (dU _ _ _ _) fun _=>.bind (dU _ _ _ _) fun _=>.bind (dU _ _ _ _) fun _=>.bind (dU _ _ _ _) fun _=>.bind (dU _ _ _ _) fun _=>.bind (dU _ _ _ _) fun _=>?_
  exact .bind (gU _) fun x=>Ul a b c d x.1 x.2
def Numb (P:Program) (s:Sem Value):Prop:=∀ (f:Nat→Nat) (K:Kd),ak P f K (aj f) s s
theorem Dw (op:BinOp) (k:FloatKind) (x y:Nat):Numb P (Op.floatArith op k x y):=fun f K=>by
 unfold Op.floatArith
 cases op<;>(refine ae (Quiet.rel (by first | exact gU _ | exact xP _)) ?_)<;>(rintro _ r rfl;cases r<;>first | exact af (by simp [aj]) | (refine ae (lD _) ?_;rintro n _ rfl;exact af (by simp [aj])))
theorem rG (op:BinOp) (k:FloatKind) (x y:Nat):Numb P (Op.floatCmp op k x y):=fun f K=>by
 unfold Op.floatCmp
 dsimp only
 split<;>first | exact af (by simp [aj]) | exact ah
theorem qp (op:BinOp) (k:FloatKind) (a b c d:Nat):Numb P (Op.complexOp op k a b c d):=fun f K=>by
 have fin:∀ x:Nat × Nat,ak P f K (aj f) (Op.Complex.conv .f64 x.1 k >>= fun r=>Op.Complex.conv .f64 x.2 k >>= fun s=>pure (Value.complex k r s)) (Op.Complex.conv .f64 x.1 k >>= fun r=>Op.Complex.conv .f64 x.2 k >>= fun s=>pure (Value.complex k r s)):=fun x=>by
  refine ae (Quiet.rel (BC _ _ _)) ?_
  rintro _ r rfl
  refine ae (Quiet.rel (BC _ _ _)) ?_
  rintro _ s rfl
  exact af (by simp [aj])
 cases op<;>dsimp only [Op.complexOp]<;>first
  | exact ah
  | (refine ae (Quiet.rel (dU _ _ _ _)) ?_;rintro _ r rfl;refine ae (Quiet.rel (dU _ _ _ _)) ?_;rintro _ s rfl;exact af (by simp [aj]))
  | (refine ae (Quiet.rel (Lh _ _ _ _)) ?_;rintro _ r rfl;refine ae (Quiet.rel (Lh _ _ _ _)) ?_;rintro _ s rfl;exact af (by simp [aj]))
  | (refine ae (Quiet.rel (BC _ _ _)) ?_;rintro _ r1 rfl;refine ae (Quiet.rel (BC _ _ _)) ?_;rintro _ r2 rfl
     refine ae (Quiet.rel (BC _ _ _)) ?_;rintro _ r3 rfl;refine ae (Quiet.rel (BC _ _ _)) ?_;rintro _ r4 rfl
     refine bz (fun _=>?_) (fun _=>?_)
     ·refine ae (Quiet.rel (Rn _ _ _ _)) ?_;rintro _ x rfl;exact fin x
     ·refine ae (Quiet.rel (N9 _ _ _ _)) ?_;rintro _ x rfl;exact fin x)
end Ren
end Go
end
end
section
section
namespace Go
namespace Ren
variable [Fr]
variable {P:Program} {f:Nat→Nat} {K:Kd}
theorem PO {e e':TypeId} {n n':Nat} (h:SR (some (e,n)) (some (e',n'))):e=e'∧(n=n'∨n=0):=by
 rcases h with h | ⟨_,_,h1,h2⟩
 ·cases h;exact ⟨rfl,.inl rfl⟩
 ·cases h1;cases h2;exact ⟨rfl,.inr rfl⟩
theorem MM (p:Program) (d:Nat) (e:TypeId) (off:Nat) (n:Int) (_hn:0≤n):cellAtBytes p d e 0 off n=none:=by
 unfold cellAtBytes
 simp only [Option.bind_eq_bind]
 split
 ·rfl
 ·cases byteOfCell p d e (off % p.cellsOf e) with
  | none=>rfl
  | some here=>
   simp only [Option.bind_some,Nat.zero_mul]
   rw [if_pos]
   ·rfl
   ·simp;omega
theorem wH (t:TypeId) (x y:Value):ak P f K (aj f) (Builtin.unsafeAdd_ #[] t #[x,y]) (Builtin.unsafeAdd_ #[] t #[val f x,val f y]):=by
 cases x with
 | pointer ptr=>
  rw [ay]
  show ak P f K (aj f) (asInt y >>= _) (asInt (val f y) >>= _)
  refine ae (zY y) ?_
  rintro _ n rfl
  dsimp only
  refine bz (fun _=>?_) (fun _=>bz (fun _=>Dies.rel ((bf _).bind _)) (fun h0=>?_))
  ·cases ptr with
   | none=>exact az
   | some a=>
    refine ae (KR a.block) ?_
    rintro _ _ ⟨rfl,rfl⟩
    exact af (by simp [aj])
  ·cases ptr with
   | none=>exact az
   | some a=>
    refine ae (zU a.block) ?_
    intro s s' hs
    cases s with
    | none=>exact az
    | some s=>
     cases s' with
     | none=>cases hs.isSome
     | some s'=>
      obtain ⟨e,c⟩:=s
      obtain ⟨e',c'⟩:=s'
      obtain ⟨rfl,h2⟩:=PO hs
      dsimp only
      refine iw ?_
      rcases h2 with rfl | rfl
      ·dsimp only [addr]
       cases cellAtBytes P P.depth e (c / P.cellsOf e) a.off n with
       | none=>exact az
       | some o=>exact af (by simp [aj,addr])
      ·rw [Nat.zero_div,MM _ _ _ _ _ (by omega)]
       exact az
 | _=>exact Dies.rel (cu _)
theorem rF (t:TypeId) (x y:Value):ak P f K (aj f) (movedNumber t x y) (movedNumber t (val f x) (val f y)):=by
 unfold movedNumber
 refine ae (aB t) ?_
 rintro _ d ⟨rfl,_⟩
 dsimp only
 have tail:ak P f K (aj f)
   (match x with
    | .pointer (some n)=>behindNumber n >>= fun r=>Builtin.unsafeAdd_ #[] t #[.pointer (some r.1),y] >>= fun z=>match z with | .pointer (some b)=>asNumber b r.2 | v=>pure v
    | _=>Builtin.unsafeAdd_ #[] t #[x,y])
   (match val f x with
    | .pointer (some n)=>behindNumber n >>= fun r=>Builtin.unsafeAdd_ #[] t #[.pointer (some r.1),val f y] >>= fun z=>match z with | .pointer (some b)=>asNumber b r.2 | v=>pure v
    | _=>Builtin.unsafeAdd_ #[] t #[val f x,val f y]):=by
  by_cases hx:∃ n,x = .pointer (some n)
  ·obtain ⟨n,rfl⟩:=hx
   simp only [ay,Option.map_some]
   refine ae (iy n) ?_
   rintro ⟨a,l⟩ _ rfl
   refine ae (by have:=wH (P:=P) (f:=f) (K:=K) t (.pointer (some a)) y;simpa using this) ?_
   rintro z _ rfl
   by_cases hz:∃ b,z = .pointer (some b)
   ·obtain ⟨b,rfl⟩:=hz
    simp only [ay,Option.map_some]
    exact N8 b l
   ·cases z with
    | pointer o=>
     cases o with
     | none=>simp only [ay,Option.map_none];exact af (by simp [aj])
     | some b=>exact absurd ⟨b,rfl⟩ hz
    | _=>simp only [dI,bV,bZ,bn,aS,aW,dC,eX,bP,aZ,bJ,bU,cO,bY];exact af (by simp [aj])
  ·have:=wH (P:=P) (f:=f) (K:=K) t x y
   cases x with
   | pointer o=>
    cases o with
    | none=>simp only [ay,Option.map_none] at this ⊢;exact this
    | some b=>exact absurd ⟨b,rfl⟩ hx
   | _=>simp only [dI,bV,bZ,bn,aS,aW,dC,eX,bP,aZ,bJ,bU,cO,bY] at this ⊢;exact this
 split
 ·exact Dies.rel ((bf _).bind _)
 ·exact tail
theorem EF (t:TypeId) (x y:Value):ak P f K (aj f) (movedPointer t x y) (movedPointer t (val f x) (val f y)):=by
 unfold movedPointer
 have key:=wH (P:=P) (f:=f) (K:=K) t x y
 by_cases hx:∃ n,x = .pointer (some n)
 ·obtain ⟨a,rfl⟩:=hx
  simp only [ay,Option.map_some] at key ⊢
  refine ae (ED a.block) ?_
  rintro o _ rfl
  rw [Option.isSome_map]
  exact bz (fun _=>Dies.rel ((bf _).bind _)) (fun _=>key)
 ·cases x with
  | pointer o=>
   cases o with
   | none=>simp only [ay,Option.map_none] at key ⊢;exact key
   | some b=>exact absurd ⟨b,rfl⟩ hx
  | _=>simp only [dI,bV,bZ,bn,aS,aW,dC,eX,bP,aZ,bJ,bU,cO,bY] at key ⊢;exact key
theorem CB (hf:rU f) (hx:Fix P f) (a b:Addr):ak P f K (fun x y=>y=x) (Op.twoPlaces a b) (Op.twoPlaces (addr f a) (addr f b)):=by
 unfold Op.twoPlaces
 refine iw ?_
 have h1:((addr f a).block != (addr f b).block)=(a.block != b.block):=by
  show (!((addr f a).block==(addr f b).block)) = !(a.block==b.block)
  rw [show ((addr f a).block==(addr f b).block)=(a.block==b.block) from IM hf _ _]
 have h2:decide ((addr f a).block ≥ P.globals.size)=decide (a.block ≥ P.globals.size):=by
  refine decide_eq_decide.2 ?_
  have:=Fix.lt hf hx a.block
  show (P.globals.size≤f a.block)↔(P.globals.size≤a.block)
  omega
 rw [h1,h2]
 refine bz (fun _=>Dies.rel ((bf _).bind _)) (fun _=>?_)
 refine ae (qg _) ?_
 rintro _ m rfl
 refine ae (qg _) ?_
 rintro _ n rfl
 exact af rfl
theorem Rl (hf:rU f) (hx:Fix P f) (k:IntKind) (a b:Addr):ak P f K (aj f) (Op.addrSub k a b) (Op.addrSub k (addr f a) (addr f b)):=by
 unfold Op.addrSub
 refine ae (CB hf hx a b) ?_
 rintro _ ⟨m,n⟩ rfl
 exact af (by simp [aj])
theorem xO (hf:rU f) (hx:Fix P f) (op:BinOp) (a b:Addr):ak P f K (aj f) (Op.addrCmp op a b) (Op.addrCmp op (addr f a) (addr f b)):=by
 unfold Op.addrCmp
 refine ae (CB hf hx a b) ?_
 rintro _ ⟨m,n⟩ rfl
 dsimp only
 split<;>first | exact af (by simp [aj]) | exact az
theorem BA (k:IntKind) (a:Addr) (n:Int):ak P f K (aj f) (Op.addrMod k a n) (Op.addrMod k (addr f a) n):=by
 unfold Op.addrMod
 refine ae (zU a.block) ?_
 intro s s' hs
 cases s with
 | none=>exact az
 | some s=>
  cases s' with
  | none=>cases hs.isSome
  | some s'=>
   obtain ⟨e,c⟩:=s
   obtain ⟨e',c'⟩:=s'
   obtain ⟨rfl,_⟩:=PO hs
   dsimp only
   refine ae (gQ e) ?_
   rintro _ i ⟨rfl,_⟩
   refine bz (fun _=>Dies.rel ((bf _).bind _)) (fun _=>?_)
   refine ae (qg _) ?_
   rintro _ m rfl
   exact af (by simp [aj])
def Wp (P:Program) (op:BinOp) (t:TypeId):Prop:=(op = .eql∨op = .neq)→IY P t
theorem N7 (hf:rU f) (hx:Fix P f) (t:TypeId) (x y:Value) (ht:IY P t):ak P f K (aj f) (binOp .eql t x y) (binOp .eql t (val f x) (val f y)):=by
 have e1:ak P f K (aj f) (Op.equal t x y >>= fun b=>pure (.bool b)) (Op.equal t (val f x) (val f y) >>= fun b=>pure (.bool b)):=by
  refine ae (Jf hf hx t x y ht) ?_
  rintro _ b rfl
  exact af (by simp [aj])
 cases x<;>cases y<;>first
  | (simp only [dI,bV,bZ,bn,aS,ay,aW,dC,eX,bP,aZ,bJ,bU,cO,bY] at e1 ⊢;exact e1)
  | (simp only [bV];exact bz (fun _=>ah) (fun _=>EG _ _ _))
  | (simp only [bZ];exact bz (fun _=>ah) (fun _=>rG _ _ _ _ f K))
  | (simp only [bn];exact bz (fun _=>ah) (fun _=>qp _ _ _ _ _ _ f K))
  | (simp only [aS];exact pX .eql _ _)
theorem NZ (hf:rU f) (hx:Fix P f) (t:TypeId) (x y:Value) (ht:IY P t):ak P f K (aj f) (binOp .neq t x y) (binOp .neq t (val f x) (val f y)):=by
 have e1:ak P f K (aj f) (Op.equal t x y >>= fun b=>pure (.bool !b)) (Op.equal t (val f x) (val f y) >>= fun b=>pure (.bool !b)):=by
  refine ae (Jf hf hx t x y ht) ?_
  rintro _ b rfl
  exact af (by simp [aj])
 cases x<;>cases y<;>first
  | (simp only [dI,bV,bZ,bn,aS,ay,aW,dC,eX,bP,aZ,bJ,bU,cO,bY] at e1 ⊢;exact e1)
  | (simp only [bV];exact bz (fun _=>ah) (fun _=>EG _ _ _))
  | (simp only [bZ];exact bz (fun _=>ah) (fun _=>rG _ _ _ _ f K))
  | (simp only [bn];exact bz (fun _=>ah) (fun _=>qp _ _ _ _ _ _ f K))
  | (simp only [aS];exact pX .neq _ _)
theorem Ha (hf:rU f) (hx:Fix P f) (op:BinOp) (t:TypeId) (x y:Value) (h1:op ≠ .eql) (h2:op ≠ .neq):ak P f K (aj f) (binOp op t x y) (binOp op t (val f x) (val f y)):=by
 by_cases hp:(∃ a,x = .pointer a)∨(∃ a,y = .pointer a)
 ·have mv:∀ x y:Value,ak P f K (aj f) (underlying t >>= fun d=>if (match d with | .unsafePointer=>true | _=>false)=true then movedPointer t x y else movedNumber t x y) (underlying t >>= fun d=>if (match d with | .unsafePointer=>true | _=>false)=true then movedPointer t (val f x) (val f y) else movedNumber t (val f x) (val f y)):=fun x y=>by
   refine ae (aB t) ?_
   rintro _ d ⟨rfl,_⟩
   exact bz (fun _=>EF t x y) (fun _=>rF t x y)
  have two:∀ (a b:Addr) (g:Addr→Addr→Sem Value),(∀ a b,ak P f K (aj f) (g a b) (g (addr f a) (addr f b)))→ak P f K (aj f) (behindNumber a >>= fun r=>behindNumber b >>= fun s=>g r.1 s.1) (behindNumber (addr f a) >>= fun r=>behindNumber (addr f b) >>= fun s=>g r.1 s.1):=fun a b g hg=>by
   refine ae (iy a) ?_
   rintro r _ rfl
   refine ae (iy b) ?_
   rintro s _ rfl
   exact hg _ _
  have one:∀ (a:Addr) (g:Addr→Sem Value),(∀ a,ak P f K (aj f) (g a) (g (addr f a)))→ak P f K (aj f) (behindNumber a >>= fun r=>g r.1) (behindNumber (addr f a) >>= fun r=>g r.1):=fun a g hg=>by
   refine ae (iy a) ?_
   rintro r _ rfl
   exact hg _
  unfold binOp
  split
  all_goals (try (exact absurd rfl h1))
  all_goals (try (exact absurd rfl h2))
  all_goals (try (rcases hp with ⟨_,hp⟩ | ⟨_,hp⟩<;>cases hp<;>done))
  ·have h3:=mv (.pointer ‹_›) (.int ‹_› ‹_›)
   simp only [ay,bV] at h3 ⊢
   exact h3
  ·have h3:=rF (P:=P) (f:=f) (K:=K) t (.pointer ‹_›) (.int ‹_› ‹_›)
   simp only [ay,bV] at h3 ⊢
   exact h3
  ·rename_i a k n
   have h3:=rF (P:=P) (f:=f) (K:=K) t (.pointer a) (.int k (-n))
   simp only [ay,bV] at h3 ⊢
   exact h3
  ·simp only [ay,Option.map_some]
   exact two _ _ (Op.addrSub .u64) (Rl hf hx .u64)
  ·simp only [ay,Option.map_some]
   exact two _ _ (Op.addrCmp _) (xO hf hx _)
  ·simp only [ay,Option.map_some]
   exact two _ _ (Op.addrCmp _) (xO hf hx _)
  ·simp only [ay,Option.map_some]
   exact two _ _ (Op.addrCmp _) (xO hf hx _)
  ·simp only [ay,Option.map_some]
   exact two _ _ (Op.addrCmp _) (xO hf hx _)
  ·simp only [ay,bV,Option.map_some]
   exact one _ (Op.addrMod _ · _) (fun a=>BA _ a _)
  ·simp only [ay,bV,Option.map_some]
   exact one _ (Op.addrMod _ · _) (fun a=>BA _ a _)
  ·simp only [ay,bV,Option.map_some]
   exact one _ (Op.addrMod _ · _) (fun a=>BA _ a _)
  ·exact az
  ·exact az
  ·exact ah
 ·have hx':∀ a,x ≠ .pointer a:=fun a e=>hp (.inl ⟨a,e⟩)
  have hy':∀ a,y ≠ .pointer a:=fun a e=>hp (.inr ⟨a,e⟩)
  by_cases hs:val f x=x∧val f y=y
  ·rw [hs.1,hs.2]
   unfold binOp
   split
   all_goals (try (exact absurd rfl h1))
   all_goals (try (exact absurd rfl h2))
   all_goals (try (exact absurd rfl (hx' _)))
   all_goals (try (exact absurd rfl (hy' _)))
   ·exact PY _ _ _ _ _
   ·exact PY _ _ _ _ _
   ·refine bz (fun _=>ah) (fun _=>?_)
    split<;>first | exact EH _ _ _ _ | exact Ui _ _ _ _ | exact Ig _ _ _ _ | exact EG _ _ _
   ·refine bz (fun _=>ah) (fun _=>?_)
    split<;>first | exact Dw _ _ _ _ f K | exact rG _ _ _ _ f K
   ·exact bz (fun _=>ah) (fun _=>qp _ _ _ _ _ _ f K)
   ·exact pX _ _ _
   ·exact ah
  ·unfold binOp
   split
   all_goals (try (exact absurd rfl h1))
   all_goals (try (exact absurd rfl h2))
   all_goals (try (exact absurd rfl (hx' _)))
   all_goals (try (exact absurd rfl (hy' _)))
   all_goals (try (exact absurd ⟨by simp,by simp⟩ hs))
   exact ah
theorem Xp (hf:rU f) (hx:Fix P f) (op:BinOp) (t:TypeId) (x y:Value) (ho:Wp P op t):ak P f K (aj f) (binOp op t x y) (binOp op t (val f x) (val f y)):=by
 by_cases h1:op = .eql
 ·subst h1;exact N7 hf hx t x y (ho (.inl rfl))
 ·by_cases h2:op = .neq
  ·subst h2;exact NZ hf hx t x y (ho (.inr rfl))
  ·exact Ha hf hx op t x y h1 h2
theorem Rh (op:BinOp) (t:TypeId) (x y:Operand) (a b:Value) (ho:Wp P op t):ak P f K (fun _ _:Unit=>True) (eqGuard op t x y a b) (eqGuard op t x y (val f a) (val f b)):=by
 unfold eqGuard
 by_cases hop:op = .eql∨op = .neq
 ·have ht:=ho hop
  refine bz (fun h=>af trivial) (fun _=>?_)
  ·by_cases hn:a = .nilIface∧b = .nilIface
   ·obtain ⟨rfl,rfl⟩:=hn
    simp only [bU]
    refine bz (fun _=>af trivial) (fun _=>?_)
    refine ae (by have:=qW (P:=P) (f:=f) (K:=K) Op.maxDepth t .nilIface .nilIface ht;simpa using this) ?_
    rintro _ r rfl
    exact bz (fun _=>az) (fun _=>af trivial)
   ·by_cases hg:∃ xs ys,a = .agg xs∧b = .agg ys
    ·obtain ⟨xs,ys,rfl,rfl⟩:=hg
     simp only [cO]
     refine iw ?_
     refine iw ?_
     refine bz (fun _=>af trivial) (fun _=>?_)
     refine ae (by have:=qW (P:=P) (f:=f) (K:=K) Op.maxDepth t (.agg xs) (.agg ys) ht;simpa using this) ?_
     rintro _ r rfl
     exact bz (fun _=>az) (fun _=>af trivial)
    ·cases a<;>cases b<;>first
      | exact absurd ⟨rfl,rfl⟩ hn
      | exact absurd ⟨_,_,rfl,rfl⟩ hg
      | (simp only [dI,bV,bZ,bn,aS,ay,aW,dC,eX,bP,aZ,bJ,bU,cO,bY];exact af trivial)
 ·refine bz (fun _=>af trivial) (fun h=>?_)
  cases op<;>first | exact absurd rfl h | exact absurd (.inl rfl) hop | exact absurd (.inr rfl) hop
end Ren
end Go
end
end
section
section
namespace Go
namespace Ren
variable [Fr]
variable {P:Program} {f:Nat→Nat} {K:Kd}
def VJ (f:Nat→Nat) (c:CommCase):CommCase:=⟨val f c.chan,c.send.map (val f),val f c.zero⟩
def next (f:Nat→Nat):Next→Next
 | .value v=>.value (val f v)
 | .enter g as=>.enter g (vals f as)
 | .round l g tmps a b=>.round (f l) g (vals f tmps) a b
 | .defer d=>.defer (deferred f d)
 | .spawn d=>.spawn (deferred f d)
 | .comm cs b s=>.comm (cs.map (VJ f)) b s
 | x=>x
def ZB:Next→Bool
 | .value _ | .skip | .enter .. | .round .. | .defer _=>true
 | _=>false
def NextK (K:Kd):Next→Prop
 | .round _ _ _ a b=>K.code a∧K.code b
 | .defer d=>K.tgt d.target
 | .enter g _=>K.fn g
 | _=>True
abbrev iY (f:Nat→Nat) (K:Kd):Next→Next→Prop:=fun x y=>y=next f x∧ZB x=true∧NextK K x
theorem dm {s s':Sem Value} (h:ak P f K (aj f) s s'):ak P f K (iY f K) (s >>= fun v=>pure (Next.value v)) (s' >>= fun v=>pure (Next.value v)):=by
 refine ae h ?_
 rintro v _ rfl
 exact af ⟨rfl,rfl,trivial⟩
theorem Bv {s s':Sem Unit} (h:ak P f K (fun _ _:Unit=>True) s s'):ak P f K (iY f K) (s >>= fun _=>pure Next.skip) (s' >>= fun _=>pure Next.skip):=by
 refine ae h ?_
 rintro _ _ _
 exact af ⟨rfl,rfl,trivial⟩
def place (f:Nat→Nat):Place→Place
 | .val v=>.val (val f v)
 | .var a=>.var (addr f a)
theorem P5 (t:TypeId) (x:Place):ak P f K (aj f) (x.get t) ((place f x).get t):=by
 cases x with
 | val v=>exact af rfl
 | var a=>exact xK t a
theorem wL:∀ (l:List FieldStep) (t:TypeId) (x:Place),ak P f K (fun a b=>b=(a.1,place f a.2)) (follow l t x) (follow l t (place f x))
 | [],t,x=>af rfl
 | s::rest,t,x=>by
  unfold follow
  refine ae (aB _) ?_
  rintro _ d ⟨rfl,_⟩
  cases d with
  | struct fields=>
   dsimp only
   cases fields[s.index]? with
   | none=>exact ah
   | some g=>
    dsimp only
    refine bz (fun _=>?_) (fun _=>?_)
    ·refine ae (P5 t x) ?_
     rintro v _ rfl
     refine ae (zZ v) ?_
     rintro a _ rfl
     refine ae (uI a g) ?_
     rintro b _ rfl
     exact wL rest g.type (.var b)
    ·cases x with
     | var a=>
      refine ae (uI a g) ?_
      rintro b _ rfl
      exact wL rest g.type (.var b)
     | val v=>
      cases v with
      | agg cs=>
       simp only [place,cO]
       refine ae (lC _ cs _) ?_
       rintro b _ rfl
       exact wL rest g.type (.val b)
      | _=>exact ah
  | _=>exact ah
theorem Q3 (t u:TypeId) (x:Value) (a b:String):ak P f K (aj f) (Builtin.ssaWrapNilChk_ #[t] u #[x,strVal a,strVal b]) (Builtin.ssaWrapNilChk_ #[t] u #[val f x,strVal a,strVal b]):=by
 cases x with
 | pointer o=>
  cases o with
  | some p=>
   simp only [ay,Option.map_some]
   exact af (show (Value.pointer (some (addr f p)))=val f (.pointer (some p)) by simp)
  | none=>
   refine Dies.rel ?_
   show Dies P K (choose _ >>= _)
   refine .after (xq _) fun n=>?_
   dsimp only
   split
   ·exact .bind (aP _) _
   ·refine .after (vM _) fun d=>?_
    split
    ·refine .after (Hu _) fun i=>?_
     split
     ·split
      ·split
       ·exact aP _
       ·exact bf _
      ·exact cu _
     ·exact cu _
    ·exact cu _
 | _=>exact Dies.rel (cu _)
theorem zV (t:TypeId) (x:Place) (p:Bool) (w:Option String):ak P f K (aj f) (receiverAt t x p w) (receiverAt t (place f x) p w):=by
 unfold receiverAt
 refine ae (aB _) ?_
 rintro _ d ⟨rfl,_⟩
 have tail:∀ (e:TypeId) (v:Value),ak P f K (aj f) (asAddr v >>= fun a=>loadVar e a) (asAddr (val f v) >>= fun a=>loadVar e a):=fun e v=>by
  refine ae (zZ v) ?_
  rintro a _ rfl
  exact xK _ _
 have ptr:∀ (e:TypeId),ak P f K (aj f)
   (x.get t >>= fun q=>match w with
    | some name=>Builtin.ssaWrapNilChk_ #[t] t #[q,strVal "",strVal name] >>= fun q=>asAddr q >>= fun a=>loadVar e a
    | none=>pure q >>= fun q=>asAddr q >>= fun a=>loadVar e a)
   ((place f x).get t >>= fun q=>match w with
    | some name=>Builtin.ssaWrapNilChk_ #[t] t #[q,strVal "",strVal name] >>= fun q=>asAddr q >>= fun a=>loadVar e a
    | none=>pure q >>= fun q=>asAddr q >>= fun a=>loadVar e a):=fun e=>by
  refine ae (P5 _ _) ?_
  rintro v _ rfl
  cases w with
  | some name=>
   refine ae (Q3 _ _ _ _ _) ?_
   rintro v _ rfl
   exact tail _ _
  | none=>exact tail _ _
 cases d<;>cases p<;>first
  | exact P5 _ _
  | exact ptr _
  | (cases x with
     | val v=>exact ah
     | var a=>exact af (show Value.pointer (some (addr f a))=val f (.pointer (some a)) by simp))
theorem G9 (t:TypeId) (x:Value) (l:Array FieldStep) (p:Bool):ak P f K (aj f) (receiverVia t x l p) (receiverVia t (val f x) l p):=by
 unfold receiverVia
 refine ae (wL l.toList t (.val x)) ?_
 rintro ⟨u,y⟩ _ rfl
 exact zV u y p none
theorem KU:∀ (n:Nat) (t:TypeId) (x:Value) (name:String),ak P f K (fun a b=>b=(a.1,val f a.2)) (method n t x name) (method n t (val f x) name)
 | 0,_,_,_=>az
 | n+1,t,x,name=>by
  unfold method
  refine ae (gQ t) ?_
  rintro _ i ⟨rfl,_⟩
  dsimp only
  cases i.methods.find? (·.name==name) with
  | none=>exact ah
  | some m=>
   dsimp only
   refine ae (wL m.path.toList t (.val x)) ?_
   rintro ⟨u,y⟩ _ rfl
   dsimp only
   cases m.func with
   | none=>
    dsimp only
    refine ae (P5 u y) ?_
    rintro v _ rfl
    cases v with
    | iface t' v'=>simp only [bJ];exact KU n t' v' name
    | nilIface=>exact dK _
    | _=>exact ah
   | some fp=>
    obtain ⟨g,p⟩:=fp
    dsimp only
    refine ae (zV u y p _) ?_
    rintro v _ rfl
    exact af rfl
end Ren
end Go
end
end
section
section
namespace Go
namespace Ren
variable [Fr]
variable {P:Program} {f:Nat→Nat} {K:Kd}
theorem KQ (x:Value):ak P f K (fun a b=>b=a) (Builtin.lenOf x) (Builtin.lenOf (val f x)):=by
 cases x with
 | slice a n c=>simp only [aW];exact af rfl
 | string s=>simp only [aS];exact af rfl
 | _=>exact ah
theorem nz (s n:Nat) (x:Value):ak P f K (fun a b=>b=vals f a) (Builtin.firstCells s n x) (Builtin.firstCells s n (val f x)):=by
 cases x with
 | slice a l c=>
  cases a with
  | none=>simp only [aW,Option.map_none];exact af (by simp [vals])
  | some a=>simp only [aW,Option.map_some];exact CJ a _
 | string s=>
  simp only [aS]
  refine af ?_
  unfold vals
  rw [Array.map_map]
  exact Array.map_congr_left fun x _=>by simp
 | _=>exact ah
theorem Rk (n:Nat):ak P f K (fun _ _:Unit=>True) (askRoom n) (askRoom n):=by
 unfold askRoom
 exact bz (fun _=>Ue) (fun _=>af trivial)
theorem JS:Calm P K (Go.mark .noRoom):=fun _ _ hv=>hv
theorem Pm (r:Nat):Calm P K (shape r):=fun _ _ hv=>hv
theorem MO (a:Addr):Calm P K (frozen a):=fun _ _ hv=>hv
theorem VN {α:Type} {c:Prop} [Decidable c] {a b:Sem α} (h:Calm P K a) (h':Calm P K b):Calm P K (if c then a else b):=by split<;>assumption
theorem vN (a:Addr) (n:Nat):Calm P K (Builtin.holdsCells a n):=by
 unfold Builtin.holdsCells
 refine Calm.bind (Pm _) fun s=>?_
 split<;>exact dZ _
theorem Hy (size sLen n:Nat) (base:Option Addr) (x:Value):Calm P K (Builtin.mayShare size sLen n base x):=by
 unfold Builtin.mayShare
 have tail:∀ there:Bool,Calm P K (if (!there)=true then pure true else match x with
   | .slice (some b) _ _=>Builtin.holdsCells b (n*size) >>= fun h=>pure (!h || base.any (·.block==b.block))
   | _=>pure false):=fun there=>by
  refine VN (dZ _) ?_
  split
  ·exact Calm.bind (vN _ _) fun _=>dZ _
  ·exact dZ _
 cases base with
 | none=>exact Calm.bind (dZ true) tail
 | some a=>exact Calm.bind (vN _ _) fun h=>Calm.bind (MO _) fun b=>Calm.bind (dZ _) tail
theorem D9 (f:Nat→Nat) {z:Value} (hc:aQ z=true) (n:Nat):vals f (Builtin.zeroCells z.cells n)=Builtin.zeroCells z.cells n:=vX f hc _
def Wq (P:Program) (ts:Array TypeId):Prop:=∀ t1 k,ts[1]? = some t1→P.underlying t1≠some (.int k)
def VY (elem size:Nat) (base:Option Addr) (sLen sCap n:Nat) (x:Value):Sem Value:=
 choose (.appendCap (sLen+n) sCap elem) >>= fun newCap=>typeInfo elem >>= fun i=>askRoom (newCap*i.bytes) >>= fun _=>
  Builtin.firstCells size sLen (.slice base sLen sCap) >>= fun old=>Builtin.firstCells size n x >>= fun new=>zeroValue elem >>= fun z=>
   newRow elem (old++new++Builtin.zeroCells z.cells (newCap - (sLen+n))) >>= fun a=>pure (.slice (some a) (sLen+n) newCap)
def app1 (elem size:Nat) (base:Option Addr) (sLen sCap n:Nat) (x:Value):Sem Value:=
 typeInfo elem >>= fun i=>if Builtin.nextslicecap (sLen+n) sCap*i.bytes > 2 ^ 48 then
  (Builtin.mayShare size sLen n base x >>= fun b=>if (!b)=true then Go.mark .noRoom >>= fun _=>unsupported (.resourceLimit "append: a slice or a string whose bytes no memory bears")
   else unsupported (.resourceLimit "append: a slice or a string whose bytes no memory bears")) >>= fun _:Unit=>VY elem size base sLen sCap n x
  else VY elem size base sLen sCap n x
def app0 (elem size:Nat) (base:Option Addr) (sLen sCap:Nat) (x:Value):Sem Value:=
 Builtin.lenOf x >>= fun n=>if sLen+n≤sCap then
   Builtin.firstCells size n x >>= fun new=>(match base with
    | some a=>storeCells (a.add (sLen*size)) new.toList >>= fun _=>pure (.slice base (sLen+n) sCap)
    | none=>pure (.slice base (sLen+n) sCap))
  else typeInfo elem >>= fun i=>if ((sLen+n:Nat):Int) > IntKind.i64.max∧(false=true∨i.bytes=0) then runtimePanic (.error "growslice: len out of range") >>= fun _:Unit=>app1 elem size base sLen sCap n x
   else app1 elem size base sLen sCap n x
theorem Zr (hz:aN P) (elem size:Nat) (base:Option Addr) (sLen sCap n:Nat) (x:Value):ak P f K (aj f) (VY elem size base sLen sCap n x) (VY elem size (base.map (addr f)) sLen sCap n (val f x)):=by
 unfold VY
 refine ae (lD _) ?_
 rintro newCap _ rfl
 refine ae (gQ _) ?_
 rintro _ i3 ⟨rfl,_⟩
 refine ae (Rk _) ?_
 rintro _ _ _
 refine ae (by simpa using nz (P:=P) (f:=f) (K:=K) size sLen (.slice base sLen sCap)) ?_
 rintro old _ rfl
 refine ae (nz _ _ _) ?_
 rintro new _ rfl
 refine ae (iJ hz _) ?_
 rintro _ z ⟨rfl,hc⟩
 have e:vals f (old++new++Builtin.zeroCells z.cells (newCap - (sLen+n)))=vals f old++vals f new++Builtin.zeroCells z.cells (newCap - (sLen+n)):=by
  rw [show ∀ a b:Array Value,vals f (a++b)=vals f a++vals f b from fun a b=>by simp [vals],show ∀ a b:Array Value,vals f (a++b)=vals f a++vals f b from fun a b=>by simp [vals],D9 f hc]
 refine ae (by have:=sK (P:=P) (f:=f) (K:=K) elem (old++new++Builtin.zeroCells z.cells (newCap - (sLen+n)));rwa [e] at this) ?_
 rintro a _ rfl
 exact af (by simp [aj])
theorem Zt (hz:aN P) (elem size:Nat) (base:Option Addr) (sLen sCap n:Nat) (x:Value):ak P f K (aj f) (app1 elem size base sLen sCap n x) (app1 elem size (base.map (addr f)) sLen sCap n (val f x)):=by
 unfold app1
 refine ae (gQ _) ?_
 rintro _ i2 ⟨rfl,_⟩
 refine bz (fun _=>Dies.rel ?_) (fun _=>Zr hz ..)
 refine .bind ?_ _
 refine .after (Hy _ _ _ _ _) fun b=>?_
 split
 ·exact .after JS fun _=>bf _
 ·exact bf _
theorem Zu (hz:aN P) (elem size:Nat) (base:Option Addr) (sLen sCap:Nat) (x:Value):ak P f K (aj f) (app0 elem size base sLen sCap x) (app0 elem size (base.map (addr f)) sLen sCap (val f x)):=by
 unfold app0
 refine ae (KQ _) ?_
 rintro _ n rfl
 refine bz (fun _=>?_) (fun _=>?_)
 ·refine ae (nz _ _ _) ?_
  rintro new _ rfl
  cases base with
  | none=>simp only [Option.map_none];exact af (by simp [aj])
  | some a=>
   simp only [Option.map_some]
   refine ae (Q:=fun _ _=>True) ?_ ?_
   ·have:=oG (P:=P) (f:=f) (K:=K) (a.add (sLen*size)) new.toList 0
    rw [addr_add] at this
    simpa [vals] using this
   ·rintro _ _ _
    exact af (by simp [aj])
 ·refine ae (gQ _) ?_
  rintro _ i ⟨rfl,_⟩
  exact bz (fun _=>Dies.rel (.bind (aP _) _)) (fun _=>Zt hz ..)
theorem Uk (hz:aN P) {ts:Array TypeId} (hts:Wq P ts) (t:TypeId) (args:Array Value):ak P f K (aj f) (Builtin.append_ ts t args) (Builtin.append_ ts t (vals f args)):=by
 unfold Builtin.append_
 simp only [fU]
 cases h0:ts[0]? with
 | none=>exact ah
 | some t0=>
  cases h1:args[0]? with
  | none=>exact ah
  | some s=>
   cases h2:args[1]? with
   | none=>exact ah
   | some x=>
    simp only [Option.map_some]
    refine ae (aB _) ?_
    rintro _ d ⟨rfl,_⟩
    cases d with
    | slice elem=>
     cases s with
     | slice base sLen sCap=>
      simp only [aW]
      refine ae (eP _) ?_
      rintro _ size ⟨rfl,_⟩
      have key:=Zu (f:=f) (K:=K) hz elem size base sLen sCap x
      cases h3:ts[1]? with
      | none=>cases base<;>exact key
      | some t1=>
       refine ae (aB _) ?_
       rintro _ d ⟨rfl,hd⟩
       have hne:=fun k=>hts t1 k h3
       cases d with
       | int k=>exact absurd hd (hne k)
       | _=>cases base<;>exact key
     | _=>exact ah
    | _=>exact ah
end Ren
end Go
end
end
section
section
namespace Go
namespace Ren
variable [Fr]
variable {P:Program} {f:Nat→Nat} {K:Kd}
theorem Zq (ts:Array TypeId) (t:TypeId) (args:Array Value):ak P f K (aj f) (Builtin.copy_ ts t args) (Builtin.copy_ ts t (vals f args)):=by
 unfold Builtin.copy_
 simp only [fU]
 cases h0:ts[0]? with
 | none=>exact ah
 | some t0=>
  cases h1:args[0]? with
  | none=>exact ah
  | some s=>
   cases h2:args[1]? with
   | none=>exact ah
   | some x=>
    simp only [Option.map_some]
    refine ae (aB _) ?_
    rintro _ d ⟨rfl,_⟩
    cases d with
    | slice elem=>
     cases s with
     | slice base sLen sCap=>
      simp only [aW]
      refine ae (KQ _) ?_
      rintro _ n rfl
      refine ae (eP _) ?_
      rintro _ size ⟨rfl,_⟩
      refine ae (nz _ _ _) ?_
      rintro cells _ rfl
      cases base with
      | none=>simp only [Option.map_none];exact af (by simp [aj,goInt])
      | some a=>
       simp only [Option.map_some]
       refine ae (Q:=fun _ _=>True) ?_ ?_
       ·have:=oG (P:=P) (f:=f) (K:=K) a cells.toList 0
        simpa [vals] using this
       ·rintro _ _ _
        exact af (by simp [aj,goInt])
     | _=>exact ah
    | _=>exact ah
theorem r_cap (ts:Array TypeId) (h:∀ t0,ts[0]? = some t0→∃ e,P.underlying t0=some (.slice e)) (t:TypeId) (args:Array Value):ak P f K (aj f) (Builtin.cap_ ts t args) (Builtin.cap_ ts t (vals f args)):=by
 unfold Builtin.cap_
 simp only [fU]
 cases h0:ts[0]? with
 | none=>exact ah
 | some t0=>
  obtain ⟨e,he⟩:=h t0 h0
  cases h1:args[0]? with
  | none=>exact ah
  | some x=>
   simp only [Option.map_some]
   refine ae (aB _) ?_
   rintro _ d ⟨rfl,hd⟩
   rw [he] at hd
   obtain rfl:=Option.some.inj hd
   cases x with
   | slice a l c=>simp only [aW];exact af (by simp [aj,goInt])
   | _=>exact ah
theorem Jh (hz:aN P) (t:TypeId) (len:Nat) (ps ps':Array (Nat × Value)) (hp:ps'=ps.map fun x=>(x.1,val f x.2)):ak P f K (aj f) (Instr.buildSlice t len ps) (Instr.buildSlice t len ps'):=by
 subst hp
 unfold Instr.buildSlice
 refine ae (aB t) ?_
 rintro _ d ⟨rfl,_⟩
 cases d with
 | slice elem=>
  refine ae (eP _) ?_
  rintro _ n ⟨rfl,_⟩
  refine bz (fun _=>Dies.rel (.bind (bf _) _)) (fun _=>?_)
  have fin:∀ z:Array Value,vals f ((Array.range (len*n)).map (z[· % z.size]!))=(Array.range (len*n)).map (z[· % z.size]!) →
    Instr.fill (fun i=>some (i*n,n)) ((Array.range (len*n)).map (z[· % z.size]!)) (ps.toList.map fun x=>(x.1,val f x.2))=(Instr.fill (fun i=>some (i*n,n)) ((Array.range (len*n)).map (z[· % z.size]!)) ps.toList).map (vals f):=fun z hzz=>by
   have:=yc f (fun i=>some (i*n,n)) ps.toList ((Array.range (len*n)).map (z[· % z.size]!))
   rwa [hzz] at this
  simp only [Array.toList_map]
  refine bz (fun h0=>?_) (fun _=>?_)
  ·refine ae (af (Q:=fun a b=>b=a∧a=#[]) ⟨rfl,rfl⟩) ?_
   rintro _ z ⟨rfl,rfl⟩
   rw [fin #[] (by rw [h0];simp [vals])]
   cases Instr.fill (fun i=>some (i*n,n)) ((Array.range (len*n)).map fun x=>(#[]:Array Value)[x % (#[]:Array Value).size]!) ps.toList with
   | none=>exact ah
   | some c=>
    refine ae (sK elem c) ?_
    rintro a _ rfl
    exact af (by simp [aj])
  ·refine ae (iJ hz elem) ?_
   rintro _ z ⟨rfl,hc⟩
   refine ae (af (Q:=fun a b=>b=a∧a=z.cells) ⟨rfl,rfl⟩) ?_
   rintro _ z2 ⟨rfl,rfl⟩
   rw [fin z.cells (vX f hc _)]
   cases Instr.fill (fun i=>some (i*n,n)) ((Array.range (len*n)).map fun x=>z.cells[x % z.cells.size]!) ps.toList with
   | none=>exact ah
   | some c=>
    refine ae (sK elem c) ?_
    rintro a _ rfl
    exact af (by simp [aj])
 | _=>exact ah
theorem Q7 (t:TypeId) (r:Option Value):ak P f K (aj f) (Instr.makeMap t r) (Instr.makeMap t (r.map (val f))):=by
 have tail:ak P f K (aj f) (newObj (.map #[] 0) >>= fun r=>pure (.map (some r))) (newObj (.map #[] 0) >>= fun r=>pure (.map (some r))):=by
  refine ae (pY (f:=f) (K:=K) rfl trivial (by simp [obj])) ?_
  rintro a _ rfl
  exact af (by simp [aj])
 unfold Instr.makeMap
 cases r with
 | none=>exact tail
 | some h=>
  refine ae (aB t) ?_
  rintro _ d ⟨rfl,_⟩
  cases d with
  | map k e=>
   refine ae (zY h) ?_
   rintro _ n rfl
   exact tail
  | _=>exact ah
theorem mJ (b:Bool):∀ (n:Nat) (t:TypeId) (v:Value),IY P t→ak P f K (fun _ _:Unit=>True) (Instr.checkKey b n t v) (Instr.checkKey b n t (val f v))
 | 0,t,v,_=>az
 | n+1,t,v,ht=>by
  unfold Instr.checkKey
  refine ae (aB t) ?_
  rintro _ d ⟨rfl,hd⟩
  have hi:=ht.inv hd
  cases d<;>first
   | exact hi.elim
   | (cases v<;>exact af trivial)
   | skip
  ·cases v with
   | agg cs=>
    simp only [cO]
    simp only [Std.Legacy.Range.forIn_eq_forIn_range']
    refine ae (Q:=fun _ _=>True) (mM _ _ _ (fun i _ x y hxy=>?_) _ _ trivial) (fun _ _ _=>af trivial)
    refine ae (eP _) ?_
    rintro _ m ⟨rfl,_⟩
    refine ae (lC _ _ _) ?_
    rintro p _ rfl
    refine ae (mJ b n _ p hi) ?_
    rintro _ _ _
    exact af trivial
   | _=>exact ah
  ·
   cases v with
   | agg cs=>
    simp only [cO]
    simp only [←Array.forIn_toList]
    refine ae (Q:=fun _ _=>True) (mM _ _ _ (fun g hg x y hxy=>?_) _ _ trivial) (fun _ _ _=>af trivial)
    refine bz (fun _=>?_) (fun _=>af trivial)
    refine ae (lC _ _ _) ?_
    rintro p _ rfl
    refine ae (mJ b n g.type p (hi g (Array.mem_toList_iff.1 hg))) ?_
    rintro _ _ _
    exact af trivial
   | _=>exact ah
end Ren
end Go
end
end
section
section
namespace Go
namespace Ren
variable [Fr]
variable {P:Program} {f:Nat→Nat} {K:Kd}
abbrev Ent (f:Nat→Nat) (es:List MapEntry):List MapEntry:=es.map (entry f)
theorem KF (f:Nat→Nat) (d:TypeDesc) (a b:Value):Instr.sameNow d (val f a) (val f b)=Instr.sameNow d a b:=by
 cases d<;>cases a<;>cases b<;>simp [Instr.sameNow]
theorem CZ (f:Nat→Nat) (d:TypeDesc) (k:Value):∀ (es:List MapEntry) (i:Nat),
  Instr.findNow d (val f k) (Ent f es) i=(Instr.findNow d k es i).map (fun r=>r.map fun x=>(x.1,val f x.2))
 | [],i=>rfl
 | e::es,i=>by
  simp only [Ent,List.map_cons,Instr.findNow]
  rw [show (entry f e).key=val f e.key from rfl,KF]
  cases Instr.sameNow d k e.key with
  | none=>rfl
  | some b=>
   cases b with
   | true=>rfl
   | false=>exact CZ f d k es (i+1)
abbrev RF (f:Nat→Nat):Option (Nat × Value)→Option (Nat × Value)→Prop:=fun a b=>b=a.map fun x=>(x.1,val f x.2)
theorem zW (hf:rU f) (hx:Fix P f) (kt:TypeId) (hk:IY P kt) (k:Value):∀ (es:List MapEntry) (i:Nat),ak P f K (RF f) (Instr.findAsking kt k es i) (Instr.findAsking kt (val f k) (Ent f es) i)
 | [],i=>af rfl
 | e::es,i=>by
  simp only [Ent,List.map_cons,Instr.findAsking]
  refine ae (Jf hf hx kt k e.key hk) ?_
  rintro _ b rfl
  exact bz (fun _=>af rfl) (fun _=>zW hf hx kt hk k es (i+1))
theorem xM (hf:rU f) (hx:Fix P f) (kt:TypeId) (hk:IY P kt) (k:Value) (es:List MapEntry):ak P f K (RF f) (Instr.findKey kt k es) (Instr.findKey kt (val f k) (Ent f es)):=by
 unfold Instr.findKey
 refine ae (aB _) ?_
 rintro _ d ⟨rfl,_⟩
 rw [CZ]
 cases Instr.findNow d k es 0 with
 | some r=>exact af rfl
 | none=>exact zW hf hx kt hk k es 0
theorem Jb (hf:rU f):∀ (n:Nat) (a b:Value),Instr.sameBits n (val f a) (val f b)=Instr.sameBits n a b:=by
 intro n
 induction n with
 | zero=>
  intro a b
  cases a<;>cases b<;>simp only [dI,bV,bZ,bn,aS,ay,aW,dC,eX,bP,aZ,bU,bJ,cO,bY,Instr.sameBits]
  ·rename_i x y
   cases x<;>cases y<;>simp [Gx hf]
  ·exact Jp hf _ _
 | succ n ih=>
  intro a b
  cases a<;>cases b<;>simp only [dI,bV,bZ,bn,aS,ay,aW,dC,eX,bP,aZ,bU,bJ,cO,bY,Instr.sameBits,ih]
  ·rename_i x y
   cases x<;>cases y<;>simp [Gx hf]
  ·exact Jp hf _ _
  ·rename_i x y
   simp only [oZ]
   congr 1
   rw [show (vals f x).toList=x.toList.map (val f) by simp [vals],show (vals f y).toList=y.toList.map (val f) by simp [vals]]
   generalize x.toList=l
   generalize y.toList=m
   induction l generalizing m with
   | nil=>simp
   | cons a l ihl=>
    cases m with
    | nil=>simp
    | cons b m=>simp only [List.map_cons,List.zip_cons_cons,List.all_cons,ih,ihl m]
theorem wJ (hf:rU f) (a b:Value):ak P f K (aj f) (Instr.keyThatStays a b) (Instr.keyThatStays (val f a) (val f b)):=by
 unfold Instr.keyThatStays
 rw [Jb hf]
 refine bz (fun _=>af rfl) (fun _=>?_)
 refine ae (lD _) ?_
 rintro _ n rfl
 refine af ?_
 dsimp only [aj]
 split<;>rfl
def Nl (P:Program) (t:TypeId):Prop:=∀ k e,P.underlying t=some (.map k e)→IY P k
theorem qc (r:Nat) {α β:Type} {Q:α→β→Prop} {g:Array MapEntry→Nat→Sem α} {g':Array MapEntry→Nat→Sem β} {why:String}
  (h:∀ es c,ak P f K Q (g es c) (g' (es.map (entry f)) c)) :
  ak P f K Q (getObj r >>= fun o=>match o with | .map es c=>g es c | _=>stuck why) (getObj (f r) >>= fun o=>match o with | .map es c=>g' es c | _=>stuck why):=by
 refine ae (qf r) ?_
 rintro o o' (⟨_,_,rfl⟩ | hh)
 ·cases o with
  | map es c=>exact h es c
  | _=>exact ah
 ·rcases hh.lone with ⟨_,_,_,_,_,_,rfl⟩ | ⟨_,rfl⟩<;>exact ah
theorem Uf (hz:aN P) (hf:rU f) (hx:Fix P f) {t:TypeId} (ht:Nl P t) (x i:Value) (ok:Bool):ak P f K (aj f) (Instr.lookup t x i ok) (Instr.lookup t (val f x) (val f i) ok):=by
 unfold Instr.lookup
 refine ae (aB t) ?_
 rintro _ d ⟨rfl,hd⟩
 cases d with
 | map key elem=>
  have hk:=ht key elem hd
  cases x with
  | map o=>
   cases o with
   | none=>
    simp only [dC,Option.map_none]
    refine ae (af (Q:=fun a b=>b=a∧a=#[]) ⟨rfl,rfl⟩) ?_
    rintro _ _ ⟨rfl,rfl⟩
    refine ae (mJ _ _ _ _ hk) ?_
    rintro _ _ _
    refine ae (xM hf hx key hk i []) ?_
    rintro r _ rfl
    cases r with
    | some y=>
     obtain ⟨j,v⟩:=y
     exact ae (af (Q:=fun a b=>b=(val f a.1,a.2)) rfl) (by rintro ⟨v,b⟩ _ rfl;exact af (by dsimp only [aj];split<;>simp [vals]))
    | none=>
     refine ae (iJ hz _) ?_
     rintro _ z ⟨rfl,hc⟩
     exact ae (af (Q:=fun a b=>b=(val f a.1,a.2)) (by rw [aH hc f])) (by rintro ⟨v,b⟩ _ rfl;exact af (by dsimp only [aj];split<;>simp [vals]))
   | some r=>
    simp only [dC,Option.map_some]
    refine qc r fun es c=>?_
    refine ae (af (Q:=fun a b=>b=a.map (entry f)∧a=es) ⟨rfl,rfl⟩) ?_
    rintro _ _ ⟨rfl,rfl⟩
    rename_i es
    rw [show (es.map (entry f)).isEmpty=es.isEmpty by simp [Array.isEmpty]]
    refine ae (mJ _ _ _ _ hk) ?_
    rintro _ _ _
    rw [Array.toList_map]
    refine ae (xM hf hx key hk i es.toList) ?_
    rintro r _ rfl
    cases r with
    | some y=>
     obtain ⟨j,v⟩:=y
     exact ae (af (Q:=fun a b=>b=(val f a.1,a.2)) rfl) (by rintro ⟨v,b⟩ _ rfl;exact af (by dsimp only [aj];split<;>simp [vals]))
    | none=>
     refine ae (iJ hz _) ?_
     rintro _ z ⟨rfl,hc⟩
     exact ae (af (Q:=fun a b=>b=(val f a.1,a.2)) (by rw [aH hc f])) (by rintro ⟨v,b⟩ _ rfl;exact af (by dsimp only [aj];split<;>simp [vals]))
  | _=>exact ah
 | _=>exact ah
end Ren
end Go
end
end
section
section
namespace Go
namespace Ren
variable [Fr]
variable {P:Program} {f:Nat→Nat} {K:Kd}
theorem uP (es:Array MapEntry) (i:Nat) (g g':MapEntry→MapEntry) (h:∀ e,g' (entry f e)=entry f (g e)):(es.map (entry f)).modify i g'=(es.modify i g).map (entry f):=by
 refine Array.ext (by simp) fun j h1 h2=>?_
 simp only [Array.size_map,Array.size_modify] at h1 h2
 simp only [Array.getElem_modify,Array.getElem_map]
 split<;>simp [h]
theorem LV (es:Array MapEntry) (i:Nat) (k:Value):(((es.map (entry f))[i]?).map (·.key)).getD (val f k)=val f (((es[i]?).map (·.key)).getD k):=by
 simp only [Array.getElem?_map]
 cases es[i]? <;> rfl
theorem CE (hf:rU f) (hx:Fix P f) {t:TypeId} (ht:Nl P t) (m k x:Value):ak P f K (fun _ _:Unit=>True) (Instr.mapUpdate t m k x) (Instr.mapUpdate t (val f m) (val f k) (val f x)):=by
 unfold Instr.mapUpdate
 refine ae (aB t) ?_
 rintro _ d ⟨rfl,hd⟩
 cases d with
 | map key elem=>
  have hk:=ht key elem hd
  cases m with
  | map o=>
   cases o with
   | none=>simp only [dC,Option.map_none];exact dK _
   | some r=>
    simp only [dC,Option.map_some]
    refine qc r fun es c=>?_
    refine ae (mJ _ _ _ _ hk) ?_
    rintro _ _ _
    rw [Array.toList_map]
    refine ae (xM hf hx key hk k es.toList) ?_
    rintro q _ rfl
    cases q with
    | some y=>
     obtain ⟨j,v⟩:=y
     simp only [Option.map_some]
     rw [LV]
     refine ae (wJ hf _ _) ?_
     rintro k2 _ rfl
     refine jr rfl trivial (fun _ _ _=>by simp) ?_
     simp only [obj]
     rw [uP]
     intro e;rfl
    | none=>
     refine jr rfl trivial (fun _ _ _=>by simp) ?_
     simp [obj,entry]
  | _=>exact ah
 | _=>exact ah
theorem NW (hz:aN P) (hf:rU f) (hx:Fix P f) {t:TypeId} (ht:Nl P t) (m k:Value):ak P f K (aj f) (Instr.mapEntry t m k) (Instr.mapEntry t (val f m) (val f k)):=by
 unfold Instr.mapEntry
 refine ae (aB t) ?_
 rintro _ d ⟨rfl,hd⟩
 cases d with
 | map key elem=>
  have hk:=ht key elem hd
  cases m with
  | map o=>
   cases o with
   | none=>simp only [dC,Option.map_none];exact dK _
   | some r=>
    simp only [dC,Option.map_some]
    refine qc r fun es c=>?_
    refine ae (mJ _ _ _ _ hk) ?_
    rintro _ _ _
    rw [Array.toList_map]
    refine ae (xM hf hx key hk k es.toList) ?_
    rintro q _ rfl
    cases q with
    | some y=>
     obtain ⟨j,v⟩:=y
     simp only [Option.map_some]
     rw [LV]
     refine ae (wJ hf _ _) ?_
     rintro k2 _ rfl
     refine ae (jr (o':=.map ((es.map (entry f)).modify j fun e=>{ e with key:=val f k2 }) c) rfl trivial (fun _ _ _=>by simp) ?_) ?_
     ·simp only [obj]
      rw [uP]
      intro e;rfl
     ·rintro _ _ _
      refine af ?_
      simp only [aj,bY,vals,Array.getElem?_map]
      cases es[j]? <;> simp [goInt,entry]
    | none=>
     refine ae (iJ hz _) ?_
     rintro _ z ⟨rfl,hc⟩
     refine ae (jr rfl trivial (fun _ _ _=>by simp) (by simp [obj,entry,aH hc f])) ?_
     rintro _ _ _
     exact af (by simp [aj,vals,goInt,aH hc f])
  | _=>exact ah
 | _=>exact ah
theorem Ho (es:Array MapEntry) (p:MapEntry→Bool) (h:∀ e,p (entry f e)=p e):(es.map (entry f)).findIdx? p=es.findIdx? p:=by
 rw [Array.findIdx?_map]
 congr 1
 funext e
 exact h e
theorem Jg (t:TypeId) (m s x:Value):ak P f K (fun _ _:Unit=>True) (Instr.entryStore t m s x) (Instr.entryStore t (val f m) (val f s) (val f x)):=by
 unfold Instr.entryStore
 cases m with
 | map o=>
  cases o with
  | none=>simp only [dC,Option.map_none];exact ah
  | some r=>
   simp only [dC,Option.map_some]
   refine qc r fun es c=>?_
   refine ae (zY s) ?_
   rintro _ born rfl
   rw [Ho es _ fun e=>rfl]
   cases es.findIdx? fun e=>(e.born:Int)==born with
   | none=>exact az
   | some i=>
    refine jr rfl trivial (fun _ _ _=>by simp) ?_
    simp only [obj]
    rw [uP]
    intro e;rfl
 | _=>exact ah
theorem Xk (t:TypeId) (x:Value):ak P f K (aj f) (Instr.range t x) (Instr.range t (val f x)):=by
 unfold Instr.range
 refine ae (aB t) ?_
 rintro _ d ⟨rfl,_⟩
 have tail:∀ o:Obj,plain o=true→ji K o→ak P f K (aj f) (newObj o >>= fun r=>pure (.pointer (some ⟨r,0,none⟩))) (newObj (obj f o) >>= fun r=>pure (.pointer (some ⟨r,0,none⟩))):=fun o hp hg=>by
  refine ae (pY hp hg rfl) ?_
  rintro a _ rfl
  exact af (by simp [aj,addr])
 cases d with
 | string=>
  cases x with
  | string s=>simp only [aS];exact tail (.stringIter s 0) rfl trivial
  | _=>exact ah
 | map k e=>
  cases x with
  | map o=>
   cases o with
   | none=>simp only [dC,Option.map_none];exact tail (.mapIter none 0 #[] 0) rfl trivial
   | some r=>
    simp only [dC,Option.map_some]
    refine qc r fun es c=>?_
    exact tail (.mapIter (some r) c #[] c) rfl trivial
  | _=>exact ah
 | _=>exact ah
end Ren
end Go
end
end
section
section
namespace Go
namespace Ren
variable [Fr]
variable {P:Program} {f:Nat→Nat} {K:Kd}
theorem uU (es:Array MapEntry) (p:MapEntry→Bool) (h:∀ e,p (entry f e)=p e):(es.map (entry f)).filter p=(es.filter p).map (entry f):=by
 rw [Array.filter_map]
 congr 2
 funext e
 exact h e
theorem Tf (es:Array MapEntry) (p:MapEntry→Bool) (h:∀ e,p (entry f e)=p e):(es.map (entry f)).all p=es.all p:=by
 rw [Array.all_map]
 congr 1
 funext e
 exact h e
theorem Zn (it:Value) (b:Bool) (t:TypeId):ak P f K (aj f) (Instr.next it b t) (Instr.next (val f it) b t):=by
 unfold Instr.next
 have over:ak P f K (aj f) (pure (.tuple #[.bool false])) (pure (.tuple #[.bool false])):=af (by simp [aj,vals])
 cases it with
 | pointer o=>
  cases o with
  | none=>exact ah
  | some a=>
   obtain ⟨r,off,spot⟩:=a
   simp only [ay,Option.map_some,addr]
   cases off with
   | succ n=>exact ah
   | zero=>
    refine ae (qf r) ?_
    rintro o o' (⟨_,_,rfl⟩ | hh)
    ·cases o with
     | stringIter s pos=>
      cases b with
      | false=>exact ah
      | true=>
       simp only [obj]
       refine bz (fun _=>?_) (fun _=>over)
       refine ae (jr rfl trivial (fun _ _ _=>by simp) (by simp [obj])) ?_
       rintro _ _ _
       exact af (by simp [aj,vals,goInt])
     | mapIter m since seen last=>
      cases b with
      | true=>cases m<;>exact ah
      | false=>
       cases m with
       | none=>exact over
       | some m=>
        simp only [obj,Option.map_some]
        refine qc m fun es c=>?_
        rw [Tf es _ fun e=>rfl,uU es _ fun e=>rfl,show (es.map (entry f)).isEmpty=es.isEmpty by simp [Array.isEmpty]]
        refine bz (fun _=>Dies.rel (.bind (bf _) _)) (fun _=>?_)
        generalize es.filter (fun e=>!seen.contains e.born)=left
        rw [uU left _ fun e=>rfl,uU left _ fun e=>rfl,← Array.map_append]
        generalize left.filter (fun e=>decide (e.born<since))=old
        generalize left.filter (fun e=>decide (e.born ≥ since))=new
        rw [show (old.map (entry f)).isEmpty=old.isEmpty by simp [Array.isEmpty],show ((if old.isEmpty=true then #[none] else #[])++((old++new).map (entry f)).map some:Array (Option MapEntry))=((if old.isEmpty=true then #[none] else #[])++(old++new).map some).map (Option.map (entry f)) by
         split<;>simp [Function.comp_def]]
        generalize (if old.isEmpty=true then #[none] else #[])++(old++new).map some=cand
        rw [Array.size_map]
        refine ae (lD _) ?_
        rintro n _ rfl
        rw [Array.getElem?_map]
        cases cand[n]? with
        | none=>exact ah
        | some e=>
         cases e with
         | none=>exact over
         | some e=>
          simp only [Option.map_some]
          refine ae (jr rfl trivial (fun _ _ _=>by simp) (by simp [obj,entry])) ?_
          rintro _ _ _
          exact af (by simp [aj,vals,entry])
     | _=>exact ah
    ·rcases hh.lone with ⟨_,_,_,_,_,_,rfl⟩ | ⟨_,rfl⟩<;>exact ah
 | _=>exact ah
theorem Xn (it:Value):ak P f K (aj f) (Instr.entry it) (Instr.entry (val f it)):=by
 unfold Instr.entry
 cases it with
 | pointer o=>
  cases o with
  | none=>exact ah
  | some a=>
   obtain ⟨r,off,spot⟩:=a
   simp only [ay,Option.map_some,addr]
   cases off with
   | succ n=>exact ah
   | zero=>
    refine ae (qf r) ?_
    rintro o o' (⟨_,_,rfl⟩ | hh)
    ·cases o with
     | mapIter m since seen last=>
      cases m with
      | none=>exact ah
      | some m=>
       simp only [obj,Option.map_some]
       cases seen.back? with
       | none=>exact ah
       | some stamp=>
        refine qc m fun es c=>?_
        refine bz (fun _=>Dies.rel (.bind (bf _) _)) (fun _=>?_)
        rw [Array.find?_map]
        rw [show ((fun e:MapEntry=>e.born==stamp) ∘ entry f)=fun e=>e.born==stamp from rfl]
        cases es.find? fun e=>e.born==stamp with
        | none=>exact az
        | some e=>exact af (by simp [aj,vals,entry])
     | _=>exact ah
    ·rcases hh.lone with ⟨_,_,_,_,_,_,rfl⟩ | ⟨_,rfl⟩<;>exact ah
 | _=>exact ah
end Ren
end Go
end
end
section
section
namespace Go
namespace Ren
variable [Fr]
variable {P:Program} {f:Nat→Nat} {K:Kd}
def zl (P:Program) (K:Kd) (g:FuncId):Prop:=K.fn g∧Fr.qL g=g∧∃ fn,P.funcs[g]? = some fn∧fn.body.isNone=false∧(fn.name == "runtime.NumGoroutine")=false
theorem yP {g:FuncId} (hb:zl P K g) (args:Array Value):ak P f K (iY f K) (callFunc g args) (callFunc g (vals f args)):=by
 obtain ⟨hk,_,fn,h1,h2,h3⟩:=hb
 unfold callFunc
 refine iw ?_
 rw [h1]
 simp only [h3,h2,Bool.false_eq_true,if_false]
 exact af ⟨rfl,rfl,hk⟩
theorem sU (l:Nat):ak P f K (fun a b=>b=loop f a∧K.code a.assign∧K.code a.body∧∀ c,a.pending=some c→K.code c) (Instr.getLoop l) (Instr.getLoop (f l)):=by
 unfold Instr.getLoop
 refine ae (qf l) ?_
 rintro o o' (⟨h1,hgd,rfl⟩ | hh)
 ·cases o with
  | loop r=>exact af ⟨rfl,hgd⟩
  | _=>exact ah
 ·rcases hh.lone with ⟨_,_,_,_,_,_,rfl⟩ | ⟨_,rfl⟩<;>exact ah
theorem L6 (f:Nat→Nat):∀ (l:List (Nat × Value)) (tmps:Array Value),(l.map fun x=>(x.1,val f x.2)).foldl (fun tmps x=>tmps.setIfInBounds x.1 x.2) (vals f tmps)=vals f (l.foldl (fun tmps x=>tmps.setIfInBounds x.1 x.2) tmps)
 | [],tmps=>rfl
 | x::l,tmps=>by
  simp only [List.map_cons,List.foldl_cons,← zt]
  exact L6 f l _
theorem Xg (l:Nat) (args:Array Value):ak P f K (iY f K) (Instr.yield l args) (Instr.yield (f l) (vals f args)):=by
 unfold Instr.yield
 refine ae (sU l) ?_
 rintro r _ ⟨rfl,hk⟩
 simp only [oZ]
 refine bz (fun _=>Dies.rel ((cu _).bind _)) (fun _=>af ⟨?_,rfl,hk.1,hk.2.1⟩)
 simp only [next,loop,Next.round.injEq,true_and,and_true]
 have e1:r.params.zip (vals f args)=(r.params.zip args).map fun x=>(x.1,val f x.2):=by
  refine Array.ext (by simp) fun i h1 h2=>?_
  simp [vals]
 have:=L6 f (r.params.zip args).toList r.tmps
 rw [←Array.toList_map,← e1,Array.foldl_toList,Array.foldl_toList] at this
 exact this
theorem jI (f:Nat→Nat) (a b:Array Value):vals f (a++b)=vals f a++vals f b:=by simp [vals]
def Wh (P:Program) (ts:Array TypeId):Prop:=∃ t0,ts[0]? = some t0∧(P.underlying t0=some .string∨(∃ e,P.underlying t0=some (.slice e)) ∨ ∃ n e,P.underlying t0=some (.array n e))
theorem r_len {ts:Array TypeId} (h:Wh P ts) (t:TypeId) (args:Array Value):ak P f K (aj f) (Builtin.len_ ts t args) (Builtin.len_ ts t (vals f args)):=by
 obtain ⟨t0,h0,hd0⟩:=h
 unfold Builtin.len_
 simp only [fU,h0]
 cases h1:args[0]? with
 | none=>exact ah
 | some x=>
  simp only [Option.map_some]
  refine ae (aB _) ?_
  rintro _ d ⟨rfl,hd⟩
  rcases hd0 with h | ⟨e,h⟩ | ⟨n,e,h⟩<;>(rw [h] at hd;obtain rfl:=Option.some.inj hd)
  ·cases x with
   | string s=>simp only [aS];exact af (by simp [aj,goInt])
   | _=>exact ah
  ·cases x with
   | slice a l c=>simp only [aW];exact af (by simp [aj,goInt])
   | _=>exact ah
  ·exact af (by simp [aj,goInt])
theorem Zp (x y:Value):ak P f K (aj f) (Builtin.max2 x y) (Builtin.max2 (val f x) (val f y)):=by
 unfold Builtin.max2
 split
 ·simp only [bV];exact af (by simp [aj])
 ·simp only [bZ]
  split
  ·refine ae (lD _) ?_
   rintro n _ rfl
   exact af (by simp [aj])
  ·exact af (by simp [aj])
  ·exact af (by simp [aj])
  ·exact af (by simp [aj])
 ·simp only [aS]
  refine ae (pX _ _ _) ?_
  rintro v _ rfl
  refine ae (EK v) ?_
  rintro _ b rfl
  exact af (by simp [aj])
 ·exact az
 ·exact az
 ·exact ah
theorem Zo (x y:Value):ak P f K (aj f) (Builtin.min2 x y) (Builtin.min2 (val f x) (val f y)):=by
 unfold Builtin.min2
 split
 ·simp only [bV];exact af (by simp [aj])
 ·simp only [bZ]
  split
  ·refine ae (lD _) ?_
   rintro n _ rfl
   exact af (by simp [aj])
  ·exact af (by simp [aj])
  ·exact af (by simp [aj])
  ·exact af (by simp [aj])
 ·simp only [aS]
  refine ae (pX _ _ _) ?_
  rintro v _ rfl
  refine ae (EK v) ?_
  rintro _ b rfl
  exact af (by simp [aj])
 ·exact az
 ·exact az
 ·exact ah
theorem EI (g:Value→Value→Sem Value) (hg:∀ x y,ak P f K (aj f) (g x y) (g (val f x) (val f y))):∀ (l:List Value) (x:Value),ak P f K (aj f) (l.foldlM g x) ((l.map (val f)).foldlM g (val f x))
 | [],x=>af rfl
 | y::l,x=>by
  simp only [List.map_cons,List.foldlM_cons]
  refine ae (hg x y) ?_
  rintro z _ rfl
  exact EI g hg l z
theorem r_min (ts:Array TypeId) (t:TypeId) (args:Array Value):ak P f K (aj f) (Builtin.min_ ts t args) (Builtin.min_ ts t (vals f args)):=by
 unfold Builtin.min_
 rw [show (vals f args).toList=args.toList.map (val f) by simp [vals]]
 cases args.toList with
 | nil=>exact ah
 | cons x l=>exact EI _ Zo l x
theorem r_max (ts:Array TypeId) (t:TypeId) (args:Array Value):ak P f K (aj f) (Builtin.max_ ts t args) (Builtin.max_ ts t (vals f args)):=by
 unfold Builtin.max_
 rw [show (vals f args).toList=args.toList.map (val f) by simp [vals]]
 cases args.toList with
 | nil=>exact ah
 | cons x l=>exact EI _ Zp l x
theorem Hw:Calm P K Instr.panicnil:=by
 unfold Instr.panicnil
 refine Calm.bind (s:=sys .env) (fun v es hv=>?_) fun r=>?_
 ·show NV K (v.sys .env).2
  have:(v.sys .env).2.heap=v.heap:=by
   have key:∀ {α:Type} (a:Ask α) (w:World),(w.ask a).2.heap=w.heap:=fun a=>by
    induction a with
    | done a=>intro w;rfl
    | ask what range k ih=>
     intro w
     simp only [World.ask]
     split
     ·exact ih _ _
     ·rw [ih]
   unfold World.sys
   split
   ·rfl
   ·rename_i r os w h
    have:=key (Kernel.perform .env v.os) v
    rw [h] at this
    exact this
  unfold NV
  rw [this]
  exact hv
 ·split
  ·exact Calm.bind oV fun _=>dZ _
  ·exact ng _
theorem Gh (x:Value):Dies P K (Instr.panic x):=by
 unfold Instr.panic
 cases x with
 | iface t v=>exact AP _
 | nilIface=>
  refine .after Hw fun n=>?_
  split
  ·exact AP _
  ·exact aP _
 | _=>exact cu _
def uw (P:Program) (b:Builtin) (ts:Array TypeId):Prop:=
 match b with
 | .len=>Wh P ts
 | .append=>Wq P ts
 | .cap=>∀ t0,ts[0]? = some t0→∃ e,P.underlying t0=some (.slice e)
 | .min | .max | .panic | .copy=>True
 | _=>False
theorem Rj (hz:aN P) {b:Builtin} {ts:Array TypeId} (h:uw P b ts) (t:TypeId) (cs:Array Bool) (args:Array Value):ak P f K (iY f K) (builtin b ts t cs args) (builtin b ts t cs (vals f args)):=by
 unfold builtin
 cases b<;>first
  | exact h.elim
  | exact dm (r_len h t args)
  | exact dm (Uk hz h t args)
  | exact dm (r_cap ts h t args)
  | exact dm (Zq ts t args)
  | exact dm (r_min ts t args)
  | exact dm (r_max ts t args)
  | exact Dies.rel (.bind (Gh _) _)
def YY (P:Program) (K:Kd):Target→Prop
 | .nil=>True
 | .builtin b ts _ _=>uw P b ts
 | .fn (.func g) _=>zl P K g
 | .fn (.via _ _ g _) _=>zl P K g
 | .fn (.yield _) _=>True
 | _=>False
theorem sQ (hz:aN P) {t:Target} (h:YY P K t) (args:Array Value):ak P f K (iY f K) (invoke t args) (invoke (target f t) (vals f args)):=by
 cases t with
 | nil=>exact Dies.rel (s:=invoke .nil args) (aP .nilDeref)
 | builtin b ts t cs=>exact Rj hz h t cs args
 | collected r=>exact h.elim
 | coroexit r=>exact h.elim
 | fn g c=>
  cases g with
  | func g=>simp only [target,fn,invoke,← jI,show Fr.qL g=g from h.2.1];exact yP h _
  | method n=>exact h.elim
  | methodOf t n=>exact h.elim
  | via t path g p=>
   simp only [target,fn,invoke,fU,show Fr.qL g=g from h.2.1]
   cases hx:args[0]? with
   | none=>exact ah
   | some x=>
    simp only [Option.map_some,oZ]
    refine ae (G9 t x path p) ?_
    rintro v _ rfl
    have:=yP (P:=P) (f:=f) (K:=K) h (#[v]++args.extract 1 args.size)
    rw [jI] at this
    simpa [vals,Array.map_extract] using this
  | yield l=>simp only [target,fn,invoke];exact Xg l args
theorem CO (g:FuncId) (tmps:Array Value) (params:Array Tmp) (as body:Code) (ha:K.code as) (hb:K.code body) (around:Option Nat) :
  ak P f K (fun a b=>b=(f a.1,a.2.map (deferred f))∧∀ d∈a.2,∃ r,d.target = .collected r) (Instr.enterLoop g tmps params as body around) (Instr.enterLoop g (vals f tmps) params as body (around.map f)):=by
 unfold Instr.enterLoop
 cases around with
 | some l=>
  simp only [Option.map_some]
  refine ae (sU l) ?_
  rintro r _ ⟨rfl,hk⟩
  refine ae (af (Q:=fun a b=>a=(r.defers,[])∧b=((loop f r).defers,[])) ⟨rfl,rfl⟩) ?_
  rintro _ _ ⟨rfl,rfl⟩
  dsimp only
  refine ae (pY rfl ⟨ha,hb,fun c h=>by cases h⟩ rfl) ?_
  rintro n _ rfl
  exact af ⟨rfl,fun d hd=>by cases hd⟩
 | none=>
  simp only [Option.map_none]
  refine ae (pY (P:=P) (f:=f) (K:=K) (o:=.deferred (some [])) rfl (fun d hd=>by cases hd) rfl) ?_
  rintro n _ rfl
  refine ae (af (Q:=fun a b=>a=(n,[{ target:=.collected n,args:=#[] }])∧b=(f n,[{ target:=.collected (f n),args:=#[] }])) ⟨rfl,rfl⟩) ?_
  rintro _ _ ⟨rfl,rfl⟩
  dsimp only
  refine ae (pY rfl ⟨ha,hb,fun c h=>by cases h⟩ rfl) ?_
  rintro m _ rfl
  exact af ⟨by simp [deferred,target,vals],fun d hd=>⟨n,by obtain rfl:=List.mem_singleton.1 hd;rfl⟩⟩
theorem zX (l:Nat):ak P f K (fun _ _:Unit=>True) (Instr.beginRound l) (Instr.beginRound (f l)):=by
 unfold Instr.beginRound
 refine ae (sU l) ?_
 rintro r _ ⟨rfl,hk⟩
 refine ae (jr rfl hk (fun _ _ _ h=>by cases h) rfl) ?_
 rintro _ _ _
 rw [show (loop f r).state=r.state from rfl]
 cases r.state<;>first | exact af trivial | exact dK _
theorem EJ (l:Nat) (j:Option Code) (hj:∀ c,j=some c→K.code c):ak P f K (aj f) (Instr.endRound l j) (Instr.endRound (f l) j):=by
 unfold Instr.endRound
 refine ae (sU l) ?_
 rintro r _ ⟨rfl,hk⟩
 refine ae (jr rfl ⟨hk.1,hk.2.1,hj⟩ (fun _ _ _ h=>by cases h) rfl) ?_
 rintro _ _ _
 exact af (by simp [aj])
theorem Ih (l:Nat):ak P f K (fun a b=>b=a∧∀ c,a=some c→K.code c) (Instr.endLoop l) (Instr.endLoop (f l)):=by
 unfold Instr.endLoop
 refine ae (sU l) ?_
 rintro r _ ⟨rfl,hk⟩
 show ak P f K _ (if r.state == .busy then _ else _) (if r.state == .busy then _ else _)
 refine bz (fun _=>Dies.rel (.bind (aP _) _)) (fun _=>?_)
 refine ae (jr rfl hk (fun _ _ _ h=>by cases h) rfl) ?_
 rintro _ _ _
 exact af ⟨rfl,hk.2.2⟩
theorem wI (b:Nat):ak P f K (fun x y=>y=x.map (deferred f)∧∀ d∈x,K.tgt d.target) (Instr.takeDeferred b) (Instr.takeDeferred (f b)):=by
 unfold Instr.takeDeferred
 refine ae (qf b) ?_
 rintro o o' (⟨h1,hgd,rfl⟩ | hh)
 ·cases o with
  | deferred ds=>
   cases ds with
   | none=>exact ah
   | some ds=>
    refine ae (jr rfl trivial (fun _ _ _ h=>by cases h) rfl) ?_
    rintro _ _ _
    exact af ⟨rfl,hgd⟩
  | _=>exact ah
 ·rcases hh.lone with ⟨_,_,_,_,_,_,rfl⟩ | ⟨_,rfl⟩<;>exact ah
end Ren
end Go
end
end
