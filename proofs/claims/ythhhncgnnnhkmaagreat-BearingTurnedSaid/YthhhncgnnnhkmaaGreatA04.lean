import Derived.Laws.Sem
import Derived.Test.YthhhncgnnnhkmaaGreatA02
set_option linter.all false
namespace Go.Ren
section
variable[Mps][Fr][Ext]{P:Program}{f:Nat→Nat}{K:Kd}
theorem r_mapM_list{α β:Type}(g:α→Sem β)(h:∀a,SRel P f K (fun x y=>y=x) (g a) (g a)):∀l:List α,SRel P f K (fun x y=>y=x) (l.mapM g) (l.mapM g)
 |[]=>by simp only[List.mapM_nil];exact r_pure rfl
 |a::l=>by
  simp only[List.mapM_cons]
  refine r_bind (h a) ?_
  rintro _ x rfl
  refine r_bind (r_mapM_list g h l) ?_
  rintro _ xs rfl
  exact r_pure rfl
theorem r_mapM_same{α β:Type}(g:α→Sem β)(h:∀a,SRel P f K (fun x y=>y=x) (g a) (g a))(as:Array α):SRel P f K (fun x y=>y=x) (as.mapM g) (as.mapM g):=by
 rw[Array.mapM_eq_mapM_toList,map_eq_pure_bind]
 refine r_bind (r_mapM_list g h as.toList) ?_
 rintro _ x rfl
 exact r_pure rfl
theorem fill_vals(f:Nat→Nat)(place:Nat→Option (Nat×Nat)):∀(ps:List (Nat×Value)) (cells:Array Value),Instr.fill place (vals f cells) (ps.map fun x=>(x.1,val f x.2))=(Instr.fill place cells ps).map (vals f)
 |[],cells=>rfl
 |(i,v)::rest,cells=>by
  simp only[List.map_cons,Instr.fill]
  cases place i with
  |none=>rfl
  |some x=>
   obtain⟨off,size⟩:=x
   simp only[cells_size,vals_size]
   split
   .rfl
   .rw[cells_val]
    have key:∀(l:List (Value×Nat)) (c:Array Value),(l.map fun x=>(val f x.1,x.2)).foldl (fun cs x=>cs.setIfInBounds (off+x.2) x.1) (vals f c)=vals f (l.foldl (fun cs x=>cs.setIfInBounds (off+x.2) x.1) c):=by
     intro l
     induction l with
     |nil=>intro c;rfl
     |cons a l ih=>intro c;simp only[List.map_cons,List.foldl_cons,←vals_set];exact ih _
    have e1:(vals f v.cells).zipIdx=v.cells.zipIdx.map fun x=>(val f x.1,x.2):=by
     refine Array.ext (by simp) fun i h1 h2=>?_
     simp[vals]
    have e2:(vals f v.cells).zipIdx.foldl (fun cs x=>cs.setIfInBounds (off+x.2) x.1) (vals f cells)=vals f (v.cells.zipIdx.foldl (fun cs x=>cs.setIfInBounds (off+x.2) x.1) cells):=by
     rw[e1,←Array.foldl_toList,←Array.foldl_toList,Array.toList_map]
     exact key _ _
    have:=fill_vals f place rest (v.cells.zipIdx.foldl (fun cs x=>cs.setIfInBounds (off+x.2) x.1) cells)
    rw[←e2] at this
    exact this
theorem r_build(hz:ZeroOK P)(t:TypeId)(ps ps':Array (Nat×Value))(hp:ps'=ps.map fun x=>(x.1,val f x.2)):SRel P f K (ToVal f) (Instr.build t ps) (Instr.build t ps'):=by
 subst hp
 unfold Instr.build
 refine r_bind (r_zeroValue hz t) ?_
 rintro _ z ⟨rfl,hc⟩
 have hzc:=zero_cells hc f
 refine r_bind (r_underlying t) ?_
 rintro _ d ⟨rfl,_⟩
 cases d with
 |struct fields=>
  refine r_bind (r_mapM_same _ (fun g=>?_) fields) ?_
  .refine r_bind (r_sizeOf _) ?_
   rintro _ n ⟨rfl,_⟩
   exact r_pure rfl
  .rintro _ places rfl
   have:=fill_vals f (places[·]?) ps.toList z.cells
   rw[hzc] at this
   simp only[Array.toList_map]
   rw[this]
   cases Instr.fill (places[·]?) z.cells ps.toList with
   |none=>exact r_stuck
   |some c=>exact r_pure (by simp[ToVal])
 |array n elem=>
  refine r_bind (r_sizeOf _) ?_
  rintro _ n ⟨rfl,_⟩
  have:=fill_vals f (fun i=>some (i*n,n)) ps.toList z.cells
  rw[hzc] at this
  simp only[Array.toList_map]
  rw[this]
  cases Instr.fill (fun i=>some (i*n,n)) z.cells ps.toList with
  |none=>exact r_stuck
  |some c=>exact r_pure (by simp[ToVal])
 |_=>exact r_stuck
theorem block_inj(hf:Inj f)(a b:Nat):(f a==f b)=(a==b):=by
 rw[Bool.eq_iff_iff,beq_iff_eq,beq_iff_eq]
 exact⟨hf a b,fun e=>by rw[e]⟩
theorem addr_inj(hf:Inj f)(a b:Addr):(addr f a==addr f b)=(a==b):=by
 rw[Bool.eq_iff_iff,beq_iff_eq,beq_iff_eq]
 refine⟨fun e=>?_,fun e=>by rw[e]⟩
 cases a;cases b
 simp only[addr,Addr.mk.injEq] at e⊢
 exact⟨hf _ _ e.1,e.2⟩
theorem opt_inj(hf:Inj f)(a b:Option Nat):(a.map f==b.map f)=(a==b):=by
 rw[Bool.eq_iff_iff,beq_iff_eq,beq_iff_eq]
 refine⟨fun e=>?_,fun e=>by rw[e]⟩
 cases a<;>cases b<;>simp only[Option.map_some,Option.map_none,Option.some.injEq,reduceCtorEq] at e⊢
 exact hf _ _ e
inductive EqT (P:Program):TypeId→Prop
 |flat {t:TypeId} {d:TypeDesc} (h:P.underlying t=some d) (hd:match d with|.bool|.int _|.float _|.complex _|.string|.chan .. | .slice _|.map .. | .func ..=>True|_=>False):EqT P t
 |struct {t:TypeId} {fs:Array Field} (h:P.underlying t=some (.struct fs)) (hs:∀g∈fs,EqT P g.type):EqT P t
 |array {t:TypeId} {n:Nat} {e:TypeId} (h:P.underlying t=some (.array n e)) (hs:EqT P e):EqT P t
theorem EqT.inv{t:TypeId}{d:TypeDesc}(h:EqT P t)(hd:P.underlying t=some d):match d with
  |.bool|.int _|.float _|.complex _|.string|.chan .. | .slice _|.map .. | .func ..=>True
  |.struct fs=>∀g∈fs,EqT P g.type
  |.array _ e=>EqT P e
  |_=>False:=by
 cases h with
 |flat h hd'=>rw[h] at hd;obtain rfl:=Option.some.inj hd;split at hd'<;>first|trivial|cases hd'
 |struct h hs=>rw[h] at hd;obtain rfl:=Option.some.inj hd;exact hs
 |array h hs=>rw[h] at hd;obtain rfl:=Option.some.inj hd;exact hs
theorem mem_forIn{α β:Type}{R:β→β→Prop}(g g':α→β→Sem (ForInStep β)) :
  ∀(l:List α),(∀a∈l,∀x y,R x y→SRel P f K (fun s t=>match s,t with|.done x,.done y=>R x y|.yield x,.yield y=>R x y|_,_=>False) (g a x) (g' a y)) →
   ∀(x y:β),R x y→SRel P f K R (forIn l x g) (forIn l y g')
 |[],_,x,y,hr=>by simp only[List.forIn_nil];exact r_pure hr
 |a::l,h,x,y,hr=>by
  simp only[List.forIn_cons]
  refine r_bind (h a (List.mem_cons_self ..) x y hr) ?_
  intro s t hst
  cases s<;>cases t<;>simp only at hst
  .exact r_pure hst
  .exact mem_forIn g g' l (fun b hb=>h b (List.mem_cons_of_mem _ hb)) _ _ hst
theorem r_equalIn(hf:Inj f)(hx:Fix P f):∀(d:Nat) (t:TypeId) (x y:Value),EqT P t→SRel P f K (fun a b=>b=a) (Op.equalIn d t x y) (Op.equalIn d t (val f x) (val f y))
 |0,t,x,y,_=>r_unsupported
 |d+1,t,x,y,ht=>by
  unfold Op.equalIn
  refine r_bind (r_underlying t) ?_
  rintro _ D ⟨rfl,hD⟩
  split
  .simp only[val_bool];exact r_pure rfl
  .simp only[val_int];exact r_ite (fun _=>r_pure rfl) (fun _=>r_stuck)
  .simp only[val_int,val_pointer,Option.map_some];exact r_pure rfl
  .simp only[val_int,val_pointer,Option.map_some];exact r_pure rfl
  .simp only[val_pointer,Option.map_some]
   refine r_bind (r_behindNumber _) ?_
   rintro⟨a,l⟩ _ rfl
   refine r_bind (r_behindNumber _) ?_
   rintro⟨b,l'⟩ _ rfl
   dsimp only
   refine r_program ?_
   have h1:((addr f a).block==(addr f b).block)=(a.block==b.block):=block_inj hf _ _
   have h2:decide ((addr f a).block<P.globals.size)=decide (a.block<P.globals.size):=decide_eq_decide.2 (Fix.lt hf hx _)
   rw[h1,h2]
   refine r_ite (fun _=>?_) (fun _=>?_)
   .refine r_bind (r_byteOf _) ?_
    rintro _ m rfl
    refine r_bind (r_byteOf _) ?_
    rintro _ n rfl
    exact r_pure rfl
   .refine r_bind (r_typeInfo t) ?_
    rintro _ i ⟨rfl,_⟩
    split
    .rw[addr_inj hf]
     exact r_ite (fun _=>r_pure rfl) (fun _=>r_unsupported)
    .exact r_unsupported
  .exact r_unsupported
  .exact r_unsupported
  .simp only[val_float];exact r_ite (fun _=>r_pure rfl) (fun _=>r_stuck)
  .simp only[val_complex];exact r_ite (fun _=>r_pure rfl) (fun _=>r_stuck)
  .simp only[val_string];exact r_pure rfl
  .exact(ht.inv hD).elim
  .exact(ht.inv hD).elim
  .exact(ht.inv hD).elim
  .exact(ht.inv hD).elim
  .simp only[val_chan,opt_inj hf];exact r_pure rfl
  .exact(ht.inv hD).elim
  .exact(ht.inv hD).elim
  .exact(ht.inv hD).elim
  .exact(ht.inv hD).elim
  .rename_i _ _ fs xs ys
   simp only[val_agg]
   refine r_program ?_
   refine r_ite (fun _=>Dies.rel ((dies_unsupported _).bind _)) (fun _=>?_)
   simp only[←Array.forIn_toList]
   refine r_bind (Q:=fun a b=>b=a) (mem_forIn _ _ fs.toList (fun g hg x y hxy=>?_) _ _ rfl) ?_
   .subst hxy
    refine r_ite (fun _=>?_) (fun _=>?_)
    .refine r_bind (r_part _ _ _) ?_
     rintro p _ rfl
     refine r_bind (r_part _ _ _) ?_
     rintro q _ rfl
     refine r_bind (r_equalIn hf hx d g.type p q (ht.inv hD g (Array.mem_toList_iff.1 hg))) ?_
     rintro _ b rfl
     refine r_ite (fun _=>r_pure ?_) (fun _=>r_pure ?_)<;>trivial
    .exact r_pure (by trivial)
   .rintro _ s rfl
    split<;>exact r_pure rfl
  .rename_i _ _ len elem xs ys
   simp only[val_agg]
   refine r_bind (r_sizeOf _) ?_
   rintro _ n ⟨rfl,_⟩
   simp only[Std.Legacy.Range.forIn_eq_forIn_range']
   refine r_bind (Q:=fun a b=>b=a) (mem_forIn _ _ _ (fun i _ x y hxy=>?_) _ _ rfl) ?_
   .subst hxy
    refine r_bind (r_part _ _ _) ?_
    rintro p _ rfl
    refine r_bind (r_part _ _ _) ?_
    rintro q _ rfl
    refine r_bind (r_equalIn hf hx d elem p q (ht.inv hD)) ?_
    rintro _ b rfl
    refine r_ite (fun _=>r_pure ?_) (fun _=>r_pure ?_)<;>trivial
   .rintro _ s rfl
    split<;>exact r_pure rfl
  .simp only[val_slice,Option.map_none];exact r_pure (by simp)
  .rename_i a1 n1 c1 m1 d1 _
   cases a1 with
   |none=>exfalso;simp_all
   |some a1=>simp only[val_slice,Option.map_none,Option.map_some];exact r_pure rfl
  .simp only[val_map,Option.map_none];exact r_pure (by simp)
  .rename_i a1 _
   cases a1 with
   |none=>exfalso;simp_all
   |some a1=>simp only[val_map,Option.map_none,Option.map_some];exact r_pure rfl
  .simp only[val_nilFunc];exact r_pure rfl
  .simp only[val_nilFunc,val_func];exact r_pure rfl
  .simp only[val_nilFunc,val_func];exact r_pure rfl
  .exact r_stuck
theorem r_eqGuardIn:∀(d:Nat) (t:TypeId) (x y:Value),EqT P t→SRel P f K (fun a b=>b=a) (Op.eqGuardIn d t x y) (Op.eqGuardIn d t (val f x) (val f y))
 |0,t,x,y,_=>r_unsupported
 |d+1,t,x,y,ht=>by
  unfold Op.eqGuardIn
  refine r_bind (r_underlying t) ?_
  rintro _ D ⟨rfl,hD⟩
  split
  .exact(ht.inv hD).elim
  .rename_i _ _ fs xs ys
   simp only[val_agg]
   simp only[←Array.forIn_toList]
   refine r_bind (Q:=fun a b=>b=a) (mem_forIn _ _ fs.toList (fun g hg x y hxy=>?_) _ _ rfl) ?_
   .subst hxy
    refine r_ite (fun _=>?_) (fun _=>?_)
    .refine r_bind (r_part _ _ _) ?_
     rintro p _ rfl
     refine r_bind (r_part _ _ _) ?_
     rintro q _ rfl
     refine r_bind (r_eqGuardIn d g.type p q (ht.inv hD g (Array.mem_toList_iff.1 hg))) ?_
     rintro _ b rfl
     refine r_ite (fun _=>r_pure ?_) (fun _=>r_pure ?_)<;>trivial
    .exact r_pure (by trivial)
   .rintro _ s rfl
    split<;>exact r_pure rfl
  .rename_i _ _ len elem xs ys
   simp only[val_agg]
   refine r_bind (r_sizeOf _) ?_
   rintro _ n ⟨rfl,_⟩
   simp only[Std.Legacy.Range.forIn_eq_forIn_range']
   refine r_bind (Q:=fun a b=>b=a) (mem_forIn _ _ _ (fun i _ x y hxy=>?_) _ _ rfl) ?_
   .subst hxy
    refine r_bind (r_part _ _ _) ?_
    rintro p _ rfl
    refine r_bind (r_part _ _ _) ?_
    rintro q _ rfl
    refine r_bind (r_eqGuardIn d elem p q (ht.inv hD)) ?_
    rintro _ b rfl
    refine r_ite (fun _=>r_pure ?_) (fun _=>r_pure ?_)<;>trivial
   .rintro _ s rfl
    split<;>exact r_pure rfl
  .rename_i h1 h2 h3
   split
   .exact(ht.inv hD).elim
   .rename_i e1 e2
    cases x<;>simp only[val_bool,val_int,val_float,val_complex,val_string,val_pointer,val_slice,val_map,val_chan,val_func,val_nilFunc,val_iface,val_nilIface,val_agg,val_tuple,reduceCtorEq] at e1
    all_goals (try exact(ifv_agg e1).elim)
    cases y<;>simp only[val_bool,val_int,val_float,val_complex,val_string,val_pointer,val_slice,val_map,val_chan,val_func,val_nilFunc,val_iface,val_nilIface,val_agg,val_tuple,reduceCtorEq] at e2
    all_goals (try exact(ifv_agg e2).elim)
    exact(h2 _ _ _ rfl rfl rfl).elim
   .rename_i e1 e2
    cases x<;>simp only[val_bool,val_int,val_float,val_complex,val_string,val_pointer,val_slice,val_map,val_chan,val_func,val_nilFunc,val_iface,val_nilIface,val_agg,val_tuple,reduceCtorEq] at e1
    all_goals (try exact(ifv_agg e1).elim)
    cases y<;>simp only[val_bool,val_int,val_float,val_complex,val_string,val_pointer,val_slice,val_map,val_chan,val_func,val_nilFunc,val_iface,val_nilIface,val_agg,val_tuple,reduceCtorEq] at e2
    all_goals (try exact(ifv_agg e2).elim)
    exact(h3 _ _ _ _ rfl rfl rfl).elim
   .exact r_pure rfl
theorem r_intArith(op:BinOp)(k:IntKind)(x y:Int):SRel P f K (ToVal f) (Op.intArith op k x y) (Op.intArith op k x y):=by
 unfold Op.intArith
 split<;>first|exact r_pure (by simp[ToVal])|exact r_stuck
theorem r_intDiv(op:BinOp)(k:IntKind)(x y:Int):SRel P f K (ToVal f) (Op.intDiv op k x y) (Op.intDiv op k x y):=by
 unfold Op.intDiv
 refine r_ite (fun _=>r_runtimePanic _) (fun _=>?_)
 split<;>first|exact r_pure (by simp[ToVal])|exact r_stuck
theorem r_intBits(op:BinOp)(k:IntKind)(x y:Int):SRel P f K (ToVal f) (Op.intBits op k x y) (Op.intBits op k x y):=by
 unfold Op.intBits
 dsimp only
 split<;>first|exact r_pure (by simp[ToVal])|exact r_stuck
theorem r_intCmp(op:BinOp)(x y:Int):SRel P f K (ToVal f) (Op.intCmp op x y) (Op.intCmp op x y):=by
 unfold Op.intCmp
 split<;>first|exact r_pure (by simp[ToVal])|exact r_stuck
theorem r_shift(op:BinOp)(k:IntKind)(x:Int)(yk:IntKind)(y:Int):SRel P f K (ToVal f) (Op.shift op k x yk y) (Op.shift op k x yk y):=by
 unfold Op.shift
 refine r_ite (fun _=>r_runtimePanic _) (fun _=>?_)
 dsimp only
 split<;>first|exact r_pure (by simp[ToVal])|exact r_stuck
theorem r_stringOp(op:BinOp)(x y:ByteArray):SRel P f K (ToVal f) (Op.stringOp op x y) (Op.stringOp op x y):=by
 unfold Op.stringOp
 dsimp only
 split
 .exact r_ite (fun _=>r_unsupported) (fun _=>r_pure (by simp[ToVal]))
 all_goals first|exact r_pure (by simp[ToVal])|exact r_stuck
theorem r_equal(hf:Inj f)(hx:Fix P f)(t:TypeId)(x y:Value)(ht:EqT P t):SRel P f K (fun a b=>b=a) (Op.equal t x y) (Op.equal t (val f x) (val f y)):=r_equalIn hf hx _ t x y ht
theorem r_unary(op:UnOp)(x:Value):SRel P f K (ToVal f) (Op.unary op x) (Op.unary op (val f x)):=by
 unfold Op.unary
 split
 .simp only[val_int];exact r_intArith _ _ _ _
 .simp only[val_int];exact r_intBits _ _ _ _
 .simp only[val_float];exact r_pure (by simp[ToVal])
 .simp only[val_complex];exact r_pure (by simp[ToVal])
 .simp only[val_bool];exact r_pure (by simp[ToVal])
 .exact r_unsupported
 .exact r_unsupported
 .exact r_stuck
inductive Quiet (P:Program) {α:Type}:Sem α→Prop
 |pure (a:α):Quiet P (.pure a)
 |choose (q:Question) {k:Nat→Sem α} (h:∀n,Quiet P (k n)):Quiet P (.choose q k)
 |program {k:Program→Sem α} (h:Quiet P (k P)):Quiet P (.program k)
 |halt (h:Halt) (hn:NoInit h):Quiet P (.halt h)
theorem Quiet.bind{α β:Type}{s:Sem α}{g:α→Sem β}(h:Quiet P s)(hg:∀a,Quiet P (g a)):Quiet P (s >>= g):=by
 show Quiet P (s.bind g)
 induction h with
 |pure a=>exact hg a
 |choose q _ ih=>exact .choose q ih
 |program _ ih=>exact .program ih
 |halt h hn=>exact .halt h hn
theorem Quiet.rel{α:Type}{s:Sem α}(h:Quiet P s):SRel P f K (fun a b=>b=a) s s:=by
 induction h with
 |pure a=>exact .pure rfl
 |choose q _ ih=>exact .choose ih
 |program _ ih=>exact .program ih
 |halt h hn=>exact .halt hn
theorem q_pure{α:Type}(a:α):Quiet P (pure a):=.pure a
theorem q_stuck{α:Type}(m:String):Quiet P (stuck m:Sem α):=.halt _ (noInit_stuck m)
theorem q_choose(q:Question):Quiet P (choose q):=.choose q fun n=>.pure n
theorem q_floatArith(op:BinOp)(k:FloatKind)(x y:Nat):Quiet P (Op.floatArith op k x y):=by
 unfold Op.floatArith
 cases op<;>(refine Quiet.bind (by first|exact q_pure _|exact q_stuck _) fun r=>?_)<;>(cases r<;>first|exact q_pure _|exact Quiet.bind (q_choose _) fun _=>q_pure _)
theorem q_floatCmp(op:BinOp)(k:FloatKind)(x y:Nat):Quiet P (Op.floatCmp op k x y):=by
 unfold Op.floatCmp
 dsimp only
 split<;>first|exact q_pure _|exact q_stuck _
theorem q_floatToFloat(s:FloatKind)(b:Nat)(d:FloatKind):Quiet P (Conv.floatToFloat s b d):=by
 unfold Conv.floatToFloat
 split
 .exact q_pure _
 .split
  .exact Quiet.bind (q_choose _) fun _=>q_pure _
  .exact q_pure _
  .dsimp only
   split
   .exact Quiet.bind (q_choose _) fun _=>q_pure _
   .exact q_pure _
theorem q_arith(op:BinOp)(k:FloatKind)(x y:Nat):Quiet P (Op.Complex.arith op k x y):=by
 unfold Op.Complex.arith
 refine Quiet.bind (q_floatArith _ _ _ _) fun v=>?_
 split<;>first|exact q_pure _|exact q_stuck _
theorem q_asBool(v:Value):Quiet P (asBool v):=by
 unfold asBool
 split<;>first|exact q_pure _|exact q_stuck _
theorem q_cmp(op:BinOp)(k:FloatKind)(x y:Nat):Quiet P (Op.Complex.cmp op k x y):=Quiet.bind (q_floatCmp _ _ _ _) fun v=>q_asBool v
theorem q_conv(s:FloatKind)(x:Nat)(d:FloatKind):Quiet P (Op.Complex.conv s x d):=by
 unfold Op.Complex.conv
 split
 .exact q_pure _
 .refine Quiet.bind (q_floatToFloat _ _ _) fun v=>?_
  split<;>first|exact q_pure _|exact q_stuck _
theorem q_product(a b c d:Nat):Quiet P (Op.Complex.product a b c d):=by
 unfold Op.Complex.product Op.Complex.sub Op.Complex.mul Op.Complex.add
 repeat' (first|exact q_pure _|exact q_arith _ _ _ _|refine Quiet.bind ?_ fun _=>?_)
theorem q_corrected(s a b c d:Nat):Quiet P (Op.Complex.corrected s a b c d):=by
 unfold Op.Complex.corrected Op.Complex.sub Op.Complex.mul Op.Complex.add
 repeat' (first|exact q_pure _|exact q_arith _ _ _ _|refine Quiet.bind ?_ fun _=>?_)
theorem q_ite{α:Type}{c:Prop}[Decidable c]{a b:Sem α}(h:Quiet P a)(h':Quiet P b):Quiet P (if c then a else b):=by split<;>assumption
theorem q_tail(a b c d e g:Nat):Quiet P (Op.Complex.cmp .eql .f64 c 0 >>= fun x=>Op.Complex.cmp .eql .f64 d 0 >>= fun y=>if (!(Op.Complex.isNaN e&&Op.Complex.isNaN g))=true then pure (e,g) else if ((x&&y)&&(!Op.Complex.isNaN a || !Op.Complex.isNaN b))=true then(Op.Complex.mul (Op.Complex.copysign Op.Complex.inf c) a >>= fun r=>Op.Complex.mul (Op.Complex.copysign Op.Complex.inf c) b >>= fun s=>pure (r,s)) else if ((Op.Complex.isInf a||Op.Complex.isInf b)&&Op.Complex.isFinite c&&Op.Complex.isFinite d)=true then Op.Complex.corrected Op.Complex.inf (Op.Complex.inf2one a) (Op.Complex.inf2one b) c d else if ((Op.Complex.isInf c||Op.Complex.isInf d)&&Op.Complex.isFinite a&&Op.Complex.isFinite b)=true then Op.Complex.corrected 0 a b (Op.Complex.inf2one c) (Op.Complex.inf2one d) else pure (e,g)):=
 .bind (q_cmp _ _ _ _) fun _=>.bind (q_cmp _ _ _ _) fun _=>q_ite (q_pure _) (q_ite (.bind (q_arith _ _ _ _) fun _=>.bind (q_arith _ _ _ _) fun _=>q_pure _) (q_ite (q_corrected _ _ _ _ _) (q_ite (q_corrected _ _ _ _ _) (q_pure _))))
theorem q_quotient(a b c d:Nat):Quiet P (Op.Complex.quotient a b c d):=by
 unfold Op.Complex.quotient
 dsimp only
 refine .bind (q_cmp _ _ _ _) fun t=>?_
 refine q_ite ?_ ?_
 .refine .bind (q_arith _ _ _ _) fun _=>.bind (q_arith _ _ _ _) fun _=>.bind (q_arith _ _ _ _) fun _=>.bind (q_arith _ _ _ _) fun _=>.bind (q_arith _ _ _ _) fun _=>.bind (q_arith _ _ _ _) fun _=>.bind (q_arith _ _ _ _) fun _=>.bind (q_arith _ _ _ _) fun _=>.bind (q_arith _ _ _ _) fun _=>?_
  exact .bind (q_pure _) fun x=>q_tail a b c d x.1 x.2
 .refine .bind (q_arith _ _ _ _) fun _=>.bind (q_arith _ _ _ _) fun _=>.bind (q_arith _ _ _ _) fun _=>.bind (q_arith _ _ _ _) fun _=>.bind (q_arith _ _ _ _) fun _=>.bind (q_arith _ _ _ _) fun _=>.bind (q_arith _ _ _ _) fun _=>.bind (q_arith _ _ _ _) fun _=>.bind (q_arith _ _ _ _) fun _=>?_
  exact .bind (q_pure _) fun x=>q_tail a b c d x.1 x.2
def Numb(P:Program)(s:Sem Value):Prop:=∀(f:Nat→Nat) (K:Kd),SRel P f K (ToVal f) s s
theorem numb_floatArith(op:BinOp)(k:FloatKind)(x y:Nat):Numb P (Op.floatArith op k x y):=fun f K=>by
 unfold Op.floatArith
 cases op<;>(refine r_bind (Quiet.rel (by first|exact q_pure _|exact q_stuck _)) ?_)<;>(rintro _ r rfl;cases r<;>first|exact r_pure (by simp[ToVal])|(refine r_bind (r_choose _) ?_;rintro n _ rfl;exact r_pure (by simp[ToVal])))
theorem numb_floatCmp(op:BinOp)(k:FloatKind)(x y:Nat):Numb P (Op.floatCmp op k x y):=fun f K=>by
 unfold Op.floatCmp
 dsimp only
 split<;>first|exact r_pure (by simp[ToVal])|exact r_stuck
theorem numb_complexOp(op:BinOp)(k:FloatKind)(a b c d:Nat):Numb P (Op.complexOp op k a b c d):=fun f K=>by
 have fin:∀x:Nat×Nat,SRel P f K (ToVal f) (Op.Complex.conv .f64 x.1 k >>= fun r=>Op.Complex.conv .f64 x.2 k >>= fun s=>pure (Value.complex k r s)) (Op.Complex.conv .f64 x.1 k >>= fun r=>Op.Complex.conv .f64 x.2 k >>= fun s=>pure (Value.complex k r s)):=fun x=>by
  refine r_bind (Quiet.rel (q_conv _ _ _)) ?_
  rintro _ r rfl
  refine r_bind (Quiet.rel (q_conv _ _ _)) ?_
  rintro _ s rfl
  exact r_pure (by simp[ToVal])
 cases op<;>dsimp only[Op.complexOp]<;>first
  |exact r_stuck
  |(refine r_bind (Quiet.rel (q_arith _ _ _ _)) ?_;rintro _ r rfl;refine r_bind (Quiet.rel (q_arith _ _ _ _)) ?_;rintro _ s rfl;exact r_pure (by simp[ToVal]))
  |(refine r_bind (Quiet.rel (q_cmp _ _ _ _)) ?_;rintro _ r rfl;refine r_bind (Quiet.rel (q_cmp _ _ _ _)) ?_;rintro _ s rfl;exact r_pure (by simp[ToVal]))
  |(refine r_bind (Quiet.rel (q_conv _ _ _)) ?_;rintro _ r1 rfl;refine r_bind (Quiet.rel (q_conv _ _ _)) ?_;rintro _ r2 rfl
    refine r_bind (Quiet.rel (q_conv _ _ _)) ?_;rintro _ r3 rfl;refine r_bind (Quiet.rel (q_conv _ _ _)) ?_;rintro _ r4 rfl
    refine r_ite (fun _=>?_) (fun _=>?_)
    .refine r_bind (Quiet.rel (q_product _ _ _ _)) ?_;rintro _ x rfl;exact fin x
    .refine r_bind (Quiet.rel (q_quotient _ _ _ _)) ?_;rintro _ x rfl;exact fin x)
theorem sr_elem{e e':TypeId}{n n':Nat}(h:SR (some (e,n)) (some (e',n'))):e=e'∧(n=n'∨n=0):=by
 rcases h with h|⟨_,_,h1,h2⟩
 .cases h;exact⟨rfl,.inl rfl⟩
 .cases h1;cases h2;exact⟨rfl,.inr rfl⟩
theorem cellAt_none(p:Program)(d:Nat)(e:TypeId)(off:Nat)(n:Int)(_hn:0≤n):cellAtBytes p d e 0 off n=none:=by
 unfold cellAtBytes
 simp only[Option.bind_eq_bind]
 split
 .rfl
 .cases byteOfCell p d e (off % p.cellsOf e) with
  |none=>rfl
  |some here=>
   simp only[Option.bind_some,Nat.zero_mul]
   rw[if_pos]
   .rfl
   .simp;omega
theorem r_unsafeAddP(t:TypeId)(x y:Value):SRel P f K (fun x y=>ToVal f x y∧∃o,x=.pointer o) (Builtin.unsafeAdd_ #[] t #[x,y]) (Builtin.unsafeAdd_ #[] t #[val f x,val f y]):=by
 cases x with
 |pointer ptr=>
  rw[val_pointer]
  show SRel P f K (fun x y=>ToVal f x y∧∃o,x=.pointer o) (asInt y >>= _) (asInt (val f y) >>= _)
  refine r_bind (r_asInt y) ?_
  rintro _ n rfl
  dsimp only
  refine r_ite (fun _=>?_) (fun _=>r_ite (fun _=>Dies.rel ((dies_unsupported _).bind _)) (fun h0=>?_))
  .cases ptr with
   |none=>exact r_unsupported
   |some a=>
    refine r_bind (r_viewAt a.block) ?_
    rintro _ _ ⟨rfl,rfl⟩
    exact r_pure ⟨by simp[ToVal],_,rfl⟩
  .cases ptr with
   |none=>exact r_unsupported
   |some a=>
    refine r_bind (r_shape a.block) ?_
    intro s s' hs
    cases s with
    |none=>exact r_unsupported
    |some s=>
     cases s' with
     |none=>cases hs.isSome
     |some s'=>
      obtain⟨e,c⟩:=s
      obtain⟨e',c'⟩:=s'
      obtain⟨rfl,h2⟩:=sr_elem hs
      dsimp only
      refine r_program ?_
      rcases h2 with rfl|rfl
      .dsimp only[addr]
       cases cellAtBytes P P.depth e (c / P.cellsOf e) a.off n with
       |none=>exact r_unsupported
       |some o=>exact r_pure ⟨by simp[ToVal,addr],_,rfl⟩
      .rw[Nat.zero_div,cellAt_none _ _ _ _ _ (by omega)]
       exact r_unsupported
 |_=>exact Dies.rel (dies_stuck _)
theorem r_unsafeAdd(t:TypeId)(x y:Value):SRel P f K (ToVal f) (Builtin.unsafeAdd_ #[] t #[x,y]) (Builtin.unsafeAdd_ #[] t #[val f x,val f y]):=(r_unsafeAddP t x y).mono fun _ _ h=>h.1
theorem r_movedNumber(t:TypeId)(x y:Value):SRel P f K (ToVal f) (movedNumber t x y) (movedNumber t (val f x) (val f y)):=by
 unfold movedNumber
 refine r_bind (r_underlying t) ?_
 rintro _ d ⟨rfl,_⟩
 dsimp only
 have tail:SRel P f K (ToVal f)
   (match x with
    |.pointer (some n)=>behindNumber n >>= fun r=>Builtin.unsafeAdd_ #[] t #[.pointer (some r.1),y] >>= fun z=>match z with|.pointer (some b)=>asNumber b r.2|v=>pure v
    |_=>Builtin.unsafeAdd_ #[] t #[x,y])
   (match val f x with
    |.pointer (some n)=>behindNumber n >>= fun r=>Builtin.unsafeAdd_ #[] t #[.pointer (some r.1),val f y] >>= fun z=>match z with|.pointer (some b)=>asNumber b r.2|v=>pure v
    |_=>Builtin.unsafeAdd_ #[] t #[val f x,val f y]):=by
  by_cases hx:∃n,x=.pointer (some n)
  .obtain⟨n,rfl⟩:=hx
   simp only[val_pointer,Option.map_some]
   refine r_bind (r_behindNumber n) ?_
   rintro⟨a,l⟩ _ rfl
   refine r_bind (by have:=r_unsafeAddP (P:=P) (f:=f) (K:=K) t (.pointer (some a)) y;simpa only[val_pointer,Option.map_some] using this) ?_
   rintro z _ ⟨rfl,hpt⟩
   by_cases hz:∃b,z=.pointer (some b)
   .obtain⟨b,rfl⟩:=hz
    simp only[val_pointer,Option.map_some]
    exact r_asNumber b l
   .cases z with
    |pointer o=>
     cases o with
     |none=>simp only[val_pointer,Option.map_none];exact r_pure (by simp[ToVal])
     |some b=>exact absurd ⟨b,rfl⟩ hz
    |iface u q=>
     obtain⟨o,hpt⟩:=hpt
     cases hpt
    |_=>simp only[val_bool,val_int,val_float,val_complex,val_string,val_slice,val_map,val_chan,val_func,val_nilFunc,val_iface,val_nilIface,val_agg,val_tuple];exact r_pure (by simp[ToVal])
  .have:=r_unsafeAdd (P:=P) (f:=f) (K:=K) t x y
   cases x with
   |pointer o=>
    cases o with
    |none=>simp only[val_pointer,Option.map_none] at this⊢;exact this
    |some b=>exact absurd ⟨b,rfl⟩ hx
   |iface u z=>exact r_stuck
   |_=>simp only[val_bool,val_int,val_float,val_complex,val_string,val_slice,val_map,val_chan,val_func,val_nilFunc,val_nilIface,val_agg,val_tuple] at this⊢;exact this
 split
 .exact Dies.rel ((dies_unsupported _).bind _)
 .exact tail
theorem r_movedPointer(t:TypeId)(x y:Value):SRel P f K (ToVal f) (movedPointer t x y) (movedPointer t (val f x) (val f y)):=by
 unfold movedPointer
 have key:=r_unsafeAdd (P:=P) (f:=f) (K:=K) t x y
 by_cases hx:∃n,x=.pointer (some n)
 .obtain⟨a,rfl⟩:=hx
  simp only[val_pointer,Option.map_some] at key⊢
  refine r_bind (r_numberAt a.block) ?_
  rintro o _ rfl
  rw[Option.isSome_map]
  exact r_ite (fun _=>Dies.rel ((dies_unsupported _).bind _)) (fun _=>key)
 .cases x with
  |pointer o=>
   cases o with
   |none=>simp only[val_pointer,Option.map_none] at key⊢;exact key
   |some b=>exact absurd ⟨b,rfl⟩ hx
  |iface u z=>exact r_stuck
  |_=>simp only[val_bool,val_int,val_float,val_complex,val_string,val_slice,val_map,val_chan,val_func,val_nilFunc,val_nilIface,val_agg,val_tuple] at key⊢;exact key
theorem r_twoPlaces(hf:Inj f)(hx:Fix P f)(a b:Addr):SRel P f K (fun x y=>y=x) (Op.twoPlaces a b) (Op.twoPlaces (addr f a) (addr f b)):=by
 unfold Op.twoPlaces
 refine r_program ?_
 have h1:((addr f a).block !=(addr f b).block)=(a.block !=b.block):=by
  show(!((addr f a).block==(addr f b).block)) = !(a.block==b.block)
  rw[show((addr f a).block==(addr f b).block)=(a.block==b.block) from block_inj hf _ _]
 have h2:decide ((addr f a).block≥P.globals.size)=decide (a.block≥P.globals.size):=by
  refine decide_eq_decide.2 ?_
  have:=Fix.lt hf hx a.block
  show(P.globals.size≤f a.block)↔(P.globals.size≤a.block)
  omega
 rw[h1,h2]
 refine r_ite (fun _=>Dies.rel ((dies_unsupported _).bind _)) (fun _=>?_)
 refine r_bind (r_byteOf _) ?_
 rintro _ m rfl
 refine r_bind (r_byteOf _) ?_
 rintro _ n rfl
 exact r_pure rfl
theorem r_addrSub(hf:Inj f)(hx:Fix P f)(k:IntKind)(a b:Addr):SRel P f K (ToVal f) (Op.addrSub k a b) (Op.addrSub k (addr f a) (addr f b)):=by
 unfold Op.addrSub
 refine r_bind (r_twoPlaces hf hx a b) ?_
 rintro _ ⟨m,n⟩ rfl
 exact r_pure (by simp[ToVal])
theorem r_addrCmp(hf:Inj f)(hx:Fix P f)(op:BinOp)(a b:Addr):SRel P f K (ToVal f) (Op.addrCmp op a b) (Op.addrCmp op (addr f a) (addr f b)):=by
 unfold Op.addrCmp
 refine r_bind (r_twoPlaces hf hx a b) ?_
 rintro _ ⟨m,n⟩ rfl
 dsimp only
 split<;>first|exact r_pure (by simp[ToVal])|exact r_unsupported
theorem r_addrMod(k:IntKind)(a:Addr)(n:Int):SRel P f K (ToVal f) (Op.addrMod k a n) (Op.addrMod k (addr f a) n):=by
 unfold Op.addrMod
 refine r_bind (r_shape a.block) ?_
 intro s s' hs
 cases s with
 |none=>exact r_unsupported
 |some s=>
  cases s' with
  |none=>cases hs.isSome
  |some s'=>
   obtain⟨e,c⟩:=s
   obtain⟨e',c'⟩:=s'
   obtain⟨rfl,_⟩:=sr_elem hs
   dsimp only
   refine r_bind (r_typeInfo e) ?_
   rintro _ i ⟨rfl,_⟩
   refine r_ite (fun _=>Dies.rel ((dies_unsupported _).bind _)) (fun _=>?_)
   refine r_bind (r_byteOf _) ?_
   rintro _ m rfl
   exact r_pure (by simp[ToVal])
def BinOK(P:Program)(op:BinOp)(t:TypeId):Prop:=(op=.eql∨op=.neq)→EqT P t
theorem binOp_eq_wild{t:TypeId}{x y:Value}(h:wildB x=true∨wildB y=true):binOp .eql t x y=(Op.equal t x y >>= fun b=>pure (.bool b)):=by
 cases x<;>cases y<;>first|rfl|(simp[wildB] at h;done)
theorem binOp_ne_wild{t:TypeId}{x y:Value}(h:wildB x=true∨wildB y=true):binOp .neq t x y=(Op.equal t x y >>= fun b=>pure (.bool !b)):=by
 cases x<;>cases y<;>first|rfl|(simp[wildB] at h;done)
theorem wild_iface{t:TypeId}{v:Value}:wildB (val f (.iface t v))=true:=by rw[val_iface];exact ifv_wild t v _
theorem r_binOp_eq(hf:Inj f)(hx:Fix P f)(t:TypeId)(x y:Value)(ht:EqT P t):SRel P f K (ToVal f) (binOp .eql t x y) (binOp .eql t (val f x) (val f y)):=by
 have e1:SRel P f K (ToVal f) (Op.equal t x y >>= fun b=>pure (.bool b)) (Op.equal t (val f x) (val f y) >>= fun b=>pure (.bool b)):=by
  refine r_bind (r_equal hf hx t x y ht) ?_
  rintro _ b rfl
  exact r_pure (by simp[ToVal])
 by_cases hix:∃u z,x=.iface u z
 .obtain⟨u,z,rfl⟩:=hix
  rw[binOp_eq_wild (.inl rfl),binOp_eq_wild (.inl wild_iface)]
  exact e1
 by_cases hiy:∃u z,y=.iface u z
 .obtain⟨u,z,rfl⟩:=hiy
  rw[binOp_eq_wild (.inr rfl),binOp_eq_wild (.inr wild_iface)]
  exact e1
 cases x<;>cases y<;>first
  |exact absurd ⟨_,_,rfl⟩ hix
  |exact absurd ⟨_,_,rfl⟩ hiy
  |(simp only[val_bool,val_int,val_float,val_complex,val_string,val_pointer,val_slice,val_map,val_chan,val_func,val_nilFunc,val_iface,val_nilIface,val_agg,val_tuple] at e1⊢;exact e1)
  |(simp only[val_int];exact r_ite (fun _=>r_stuck) (fun _=>r_intCmp _ _ _))
  |(simp only[val_float];exact r_ite (fun _=>r_stuck) (fun _=>numb_floatCmp _ _ _ _ f K))
  |(simp only[val_complex];exact r_ite (fun _=>r_stuck) (fun _=>numb_complexOp _ _ _ _ _ _ f K))
  |(simp only[val_string];exact r_stringOp .eql _ _)
theorem r_binOp_ne(hf:Inj f)(hx:Fix P f)(t:TypeId)(x y:Value)(ht:EqT P t):SRel P f K (ToVal f) (binOp .neq t x y) (binOp .neq t (val f x) (val f y)):=by
 have e1:SRel P f K (ToVal f) (Op.equal t x y >>= fun b=>pure (.bool !b)) (Op.equal t (val f x) (val f y) >>= fun b=>pure (.bool !b)):=by
  refine r_bind (r_equal hf hx t x y ht) ?_
  rintro _ b rfl
  exact r_pure (by simp[ToVal])
 by_cases hix:∃u z,x=.iface u z
 .obtain⟨u,z,rfl⟩:=hix
  rw[binOp_ne_wild (.inl rfl),binOp_ne_wild (.inl wild_iface)]
  exact e1
 by_cases hiy:∃u z,y=.iface u z
 .obtain⟨u,z,rfl⟩:=hiy
  rw[binOp_ne_wild (.inr rfl),binOp_ne_wild (.inr wild_iface)]
  exact e1
 cases x<;>cases y<;>first
  |exact absurd ⟨_,_,rfl⟩ hix
  |exact absurd ⟨_,_,rfl⟩ hiy
  |(simp only[val_bool,val_int,val_float,val_complex,val_string,val_pointer,val_slice,val_map,val_chan,val_func,val_nilFunc,val_iface,val_nilIface,val_agg,val_tuple] at e1⊢;exact e1)
  |(simp only[val_int];exact r_ite (fun _=>r_stuck) (fun _=>r_intCmp _ _ _))
  |(simp only[val_float];exact r_ite (fun _=>r_stuck) (fun _=>numb_floatCmp _ _ _ _ f K))
  |(simp only[val_complex];exact r_ite (fun _=>r_stuck) (fun _=>numb_complexOp _ _ _ _ _ _ f K))
  |(simp only[val_string];exact r_stringOp .neq _ _)
theorem r_binOp_other(hf:Inj f)(hx:Fix P f)(op:BinOp)(t:TypeId)(x y:Value)(h1:op≠.eql)(h2:op≠.neq):SRel P f K (ToVal f) (binOp op t x y) (binOp op t (val f x) (val f y)):=by
 by_cases hp:(∃a,x=.pointer a)∨(∃a,y=.pointer a)
 .have mv:∀x y:Value,SRel P f K (ToVal f) (underlying t >>= fun d=>if (match d with|.unsafePointer=>true|_=>false)=true then movedPointer t x y else movedNumber t x y) (underlying t >>= fun d=>if (match d with|.unsafePointer=>true|_=>false)=true then movedPointer t (val f x) (val f y) else movedNumber t (val f x) (val f y)):=fun x y=>by
   refine r_bind (r_underlying t) ?_
   rintro _ d ⟨rfl,_⟩
   exact r_ite (fun _=>r_movedPointer t x y) (fun _=>r_movedNumber t x y)
  have two:∀(a b:Addr) (g:Addr→Addr→Sem Value),(∀a b,SRel P f K (ToVal f) (g a b) (g (addr f a) (addr f b)))→SRel P f K (ToVal f) (behindNumber a >>= fun r=>behindNumber b >>= fun s=>g r.1 s.1) (behindNumber (addr f a) >>= fun r=>behindNumber (addr f b) >>= fun s=>g r.1 s.1):=fun a b g hg=>by
   refine r_bind (r_behindNumber a) ?_
   rintro r _ rfl
   refine r_bind (r_behindNumber b) ?_
   rintro s _ rfl
   exact hg _ _
  have one:∀(a:Addr) (g:Addr→Sem Value),(∀a,SRel P f K (ToVal f) (g a) (g (addr f a)))→SRel P f K (ToVal f) (behindNumber a >>= fun r=>g r.1) (behindNumber (addr f a) >>= fun r=>g r.1):=fun a g hg=>by
   refine r_bind (r_behindNumber a) ?_
   rintro r _ rfl
   exact hg _
  unfold binOp
  split
  all_goals (try (exact absurd rfl h1))
  all_goals (try (exact absurd rfl h2))
  all_goals (try (rcases hp with⟨_,hp⟩|⟨_,hp⟩<;>cases hp<;>done))
  .have h3:=mv (.pointer ‹_›) (.int ‹_› ‹_›)
   simp only[val_pointer,val_int] at h3⊢
   exact h3
  .have h3:=r_movedNumber (P:=P) (f:=f) (K:=K) t (.pointer ‹_›) (.int ‹_› ‹_›)
   simp only[val_pointer,val_int] at h3⊢
   exact h3
  .rename_i a k n
   have h3:=r_movedNumber (P:=P) (f:=f) (K:=K) t (.pointer a) (.int k (-n))
   simp only[val_pointer,val_int] at h3⊢
   exact h3
  .simp only[val_pointer,Option.map_some]
   exact two _ _ (Op.addrSub .u64) (r_addrSub hf hx .u64)
  .simp only[val_pointer,Option.map_some]
   exact two _ _ (Op.addrCmp _) (r_addrCmp hf hx _)
  .simp only[val_pointer,Option.map_some]
   exact two _ _ (Op.addrCmp _) (r_addrCmp hf hx _)
  .simp only[val_pointer,Option.map_some]
   exact two _ _ (Op.addrCmp _) (r_addrCmp hf hx _)
  .simp only[val_pointer,Option.map_some]
   exact two _ _ (Op.addrCmp _) (r_addrCmp hf hx _)
  .simp only[val_pointer,val_int,Option.map_some]
   exact one _ (Op.addrMod _ · _) (fun a=>r_addrMod _ a _)
  .simp only[val_pointer,val_int,Option.map_some]
   exact one _ (Op.addrMod _ · _) (fun a=>r_addrMod _ a _)
  .simp only[val_pointer,val_int,Option.map_some]
   exact one _ (Op.addrMod _ · _) (fun a=>r_addrMod _ a _)
  .exact r_unsupported
  .exact r_unsupported
  .exact r_stuck
 .have hx':∀a,x≠.pointer a:=fun a e=>hp (.inl ⟨a,e⟩)
  have hy':∀a,y≠.pointer a:=fun a e=>hp (.inr ⟨a,e⟩)
  by_cases hs:val f x=x∧val f y=y
  .rw[hs.1,hs.2]
   unfold binOp
   split
   all_goals (try (exact absurd rfl h1))
   all_goals (try (exact absurd rfl h2))
   all_goals (try (exact absurd rfl (hx' _)))
   all_goals (try (exact absurd rfl (hy' _)))
   .exact r_shift _ _ _ _ _
   .exact r_shift _ _ _ _ _
   .refine r_ite (fun _=>r_stuck) (fun _=>?_)
    split<;>first|exact r_intArith _ _ _ _|exact r_intDiv _ _ _ _|exact r_intBits _ _ _ _|exact r_intCmp _ _ _
   .refine r_ite (fun _=>r_stuck) (fun _=>?_)
    split<;>first|exact numb_floatArith _ _ _ _ f K|exact numb_floatCmp _ _ _ _ f K
   .exact r_ite (fun _=>r_stuck) (fun _=>numb_complexOp _ _ _ _ _ _ f K)
   .exact r_stringOp _ _ _
   .exact r_stuck
  .unfold binOp
   split
   all_goals (try (exact absurd rfl h1))
   all_goals (try (exact absurd rfl h2))
   all_goals (try (exact absurd rfl (hx' _)))
   all_goals (try (exact absurd rfl (hy' _)))
   all_goals (try (exact absurd ⟨by simp,by simp⟩ hs))
   exact r_stuck
theorem r_binOp(hf:Inj f)(hx:Fix P f)(op:BinOp)(t:TypeId)(x y:Value)(ho:BinOK P op t):SRel P f K (ToVal f) (binOp op t x y) (binOp op t (val f x) (val f y)):=by
 by_cases h1:op=.eql
 .subst h1;exact r_binOp_eq hf hx t x y (ho (.inl rfl))
 .by_cases h2:op=.neq
  .subst h2;exact r_binOp_ne hf hx t x y (ho (.inr rfl))
  .exact r_binOp_other hf hx op t x y h1 h2
theorem r_eqGuard(op:BinOp)(t:TypeId)(x y:Operand)(a b:Value)(ho:BinOK P op t):SRel P f K (fun _ _:Unit=>True) (eqGuard op t x y a b) (eqGuard op t x y (val f a) (val f b)):=by
 unfold eqGuard
 by_cases hop:op=.eql∨op=.neq
 .have ht:=ho hop
  refine r_ite (fun h=>r_pure trivial) (fun _=>?_)
  .by_cases hn:a=.nilIface∧b=.nilIface
   .obtain⟨rfl,rfl⟩:=hn
    simp only[val_nilIface]
    refine r_ite (fun _=>r_pure trivial) (fun _=>?_)
    refine r_bind (by have:=r_eqGuardIn (P:=P) (f:=f) (K:=K) Op.maxDepth t .nilIface .nilIface ht;simpa using this) ?_
    rintro _ r rfl
    exact r_ite (fun _=>r_unsupported) (fun _=>r_pure trivial)
   .by_cases hg:∃xs ys,a=.agg xs∧b=.agg ys
    .obtain⟨xs,ys,rfl,rfl⟩:=hg
     simp only[val_agg]
     refine r_program ?_
     refine r_program ?_
     refine r_ite (fun _=>r_pure trivial) (fun _=>?_)
     refine r_bind (by have:=r_eqGuardIn (P:=P) (f:=f) (K:=K) Op.maxDepth t (.agg xs) (.agg ys) ht;simpa using this) ?_
     rintro _ r rfl
     exact r_ite (fun _=>r_unsupported) (fun _=>r_pure trivial)
    .by_cases hia:∃u z,a=.iface u z
     .obtain⟨u,z,rfl⟩:=hia
      rw[val_iface]
      have hq:=ifv_wild u z (val f z)
      generalize ifv u z (val f z)=q at hq⊢
      cases q<;>first|exact r_pure trivial|cases hq
     by_cases hib:∃u z,b=.iface u z
     .obtain⟨u,z,rfl⟩:=hib
      rw[val_iface]
      have hq:=ifv_wild u z (val f z)
      generalize ifv u z (val f z)=q at hq⊢
      cases a<;>cases q<;>first|exact absurd ⟨_,_,rfl⟩ hia|(simp only[val_bool,val_int,val_float,val_complex,val_string,val_pointer,val_slice,val_map,val_chan,val_func,val_nilFunc,val_nilIface,val_agg,val_tuple];exact r_pure trivial)|cases hq
     cases a<;>cases b<;>first
      |exact absurd ⟨_,_,rfl⟩ hia
      |exact absurd ⟨_,_,rfl⟩ hib
      |exact absurd ⟨rfl,rfl⟩ hn
      |exact absurd ⟨_,_,rfl,rfl⟩ hg
      |(simp only[val_bool,val_int,val_float,val_complex,val_string,val_pointer,val_slice,val_map,val_chan,val_func,val_nilFunc,val_iface,val_nilIface,val_agg,val_tuple];exact r_pure trivial)
 .refine r_ite (fun _=>r_pure trivial) (fun h=>?_)
  cases op<;>first|exact absurd rfl h|exact absurd (.inl rfl) hop|exact absurd (.inr rfl) hop
def commCase(f:Nat→Nat)(c:CommCase):CommCase:=⟨val f c.chan,c.send.map (val f),val f c.zero⟩
def next(f:Nat→Nat):Next→Next
 |.value v=>.value (val f v)
 |.enter g as=>.enter g (vals f as)
 |.round l g tmps a b=>.round (f l) g (vals f tmps) a b
 |.defer d=>.defer (deferred f d)
 |.spawn d=>.spawn (deferred f d)
 |.comm cs b s=>.comm (cs.map (commCase f)) b s
 |x=>x
def nextOK:Next→Bool
 |.value _|.skip|.enter .. | .round .. | .defer _=>true
 |_=>false
def NextK(K:Kd):Next→Prop
 |.round _ _ _ a b=>K.code a∧K.code b
 |.defer d=>K.tgt d.target
 |.enter g _=>K.fn g
 |_=>True
abbrev ToNext(f:Nat→Nat)(K:Kd):Next→Next→Prop:=fun x y=>y=next f x∧nextOK x=true∧NextK K x
theorem r_value{s s':Sem Value}(h:SRel P f K (ToVal f) s s'):SRel P f K (ToNext f K) (s >>= fun v=>pure (Next.value v)) (s' >>= fun v=>pure (Next.value v)):=by
 refine r_bind h ?_
 rintro v _ rfl
 exact r_pure ⟨rfl,rfl,trivial⟩
theorem r_skip{s s':Sem Unit}(h:SRel P f K (fun _ _:Unit=>True) s s'):SRel P f K (ToNext f K) (s >>= fun _=>pure Next.skip) (s' >>= fun _=>pure Next.skip):=by
 refine r_bind h ?_
 rintro _ _ _
 exact r_pure ⟨rfl,rfl,trivial⟩
def place(f:Nat→Nat):Place→Place
 |.val v=>.val (val f v)
 |.var a=>.var (addr f a)
theorem r_get(t:TypeId)(x:Place):SRel P f K (ToVal f) (x.get t) ((place f x).get t):=by
 cases x with
 |val v=>exact r_pure rfl
 |var a=>exact r_loadVar t a
theorem r_follow:∀(l:List FieldStep) (t:TypeId) (x:Place),SRel P f K (fun a b=>b=(a.1,place f a.2)) (follow l t x) (follow l t (place f x))
 |[],t,x=>r_pure rfl
 |s::rest,t,x=>by
  unfold follow
  refine r_bind (r_underlying _) ?_
  rintro _ d ⟨rfl,_⟩
  cases d with
  |struct fields=>
   dsimp only
   cases fields[s.index]? with
   |none=>exact r_stuck
   |some g=>
    dsimp only
    refine r_ite (fun _=>?_) (fun _=>?_)
    .refine r_bind (r_get t x) ?_
     rintro v _ rfl
     refine r_bind (r_asAddr v) ?_
     rintro a _ rfl
     refine r_bind (r_fieldPlace a g) ?_
     rintro b _ rfl
     exact r_follow rest g.type (.var b)
    .cases x with
     |var a=>
      refine r_bind (r_fieldPlace a g) ?_
      rintro b _ rfl
      exact r_follow rest g.type (.var b)
     |val v=>
      cases v with
      |agg cs=>
       simp only[place,val_agg]
       refine r_bind (r_part _ cs _) ?_
       rintro b _ rfl
       exact r_follow rest g.type (.val b)
      |_=>exact r_stuck
  |_=>exact r_stuck
theorem r_wrapNil(t u:TypeId)(x:Value)(a b:String):SRel P f K (ToVal f) (Builtin.ssaWrapNilChk_ #[t] u #[x,strVal a,strVal b]) (Builtin.ssaWrapNilChk_ #[t] u #[val f x,strVal a,strVal b]):=by
 cases x with
 |pointer o=>
  cases o with
  |some p=>
   simp only[val_pointer,Option.map_some]
   exact r_pure (show(Value.pointer (some (addr f p)))=val f (.pointer (some p)) by simp)
  |none=>
   refine Dies.rel ?_
   show Dies P K (choose _ >>= _)
   refine .after (calm_choose _) fun n=>?_
   dsimp only
   split
   .exact .bind (dies_runtimePanic _) _
   .refine .after (calm_underlying _) fun d=>?_
    split
    .refine .after (calm_typeInfo _) fun i=>?_
     split
     .split
      .split
       .exact dies_runtimePanic _
       .exact dies_unsupported _
      .exact dies_stuck _
     .exact dies_stuck _
    .exact dies_stuck _
 |_=>exact Dies.rel (dies_stuck _)
theorem r_receiverAt(t:TypeId)(x:Place)(p:Bool)(w:Option String):SRel P f K (ToVal f) (receiverAt t x p w) (receiverAt t (place f x) p w):=by
 unfold receiverAt
 refine r_bind (r_underlying _) ?_
 rintro _ d ⟨rfl,_⟩
 have tail:∀(e:TypeId) (v:Value),SRel P f K (ToVal f) (asAddr v >>= fun a=>loadVar e a) (asAddr (val f v) >>= fun a=>loadVar e a):=fun e v=>by
  refine r_bind (r_asAddr v) ?_
  rintro a _ rfl
  exact r_loadVar _ _
 have ptr:∀(e:TypeId),SRel P f K (ToVal f)
   (x.get t >>= fun q=>match w with
    |some name=>Builtin.ssaWrapNilChk_ #[t] t #[q,strVal "",strVal name] >>= fun q=>asAddr q >>= fun a=>loadVar e a
    |none=>pure q >>= fun q=>asAddr q >>= fun a=>loadVar e a)
   ((place f x).get t >>= fun q=>match w with
    |some name=>Builtin.ssaWrapNilChk_ #[t] t #[q,strVal "",strVal name] >>= fun q=>asAddr q >>= fun a=>loadVar e a
    |none=>pure q >>= fun q=>asAddr q >>= fun a=>loadVar e a):=fun e=>by
  refine r_bind (r_get _ _) ?_
  rintro v _ rfl
  cases w with
  |some name=>
   refine r_bind (r_wrapNil _ _ _ _ _) ?_
   rintro v _ rfl
   exact tail _ _
  |none=>exact tail _ _
 cases d<;>cases p<;>first
  |exact r_get _ _
  |exact ptr _
  |(cases x with
    |val v=>exact r_stuck
    |var a=>exact r_pure (show Value.pointer (some (addr f a))=val f (.pointer (some a)) by simp))
theorem r_receiverVia(t:TypeId)(x:Value)(l:Array FieldStep)(p:Bool):SRel P f K (ToVal f) (receiverVia t x l p) (receiverVia t (val f x) l p):=by
 unfold receiverVia
 refine r_bind (r_follow l.toList t (.val x)) ?_
 rintro⟨u,y⟩ _ rfl
 exact r_receiverAt u y p none
theorem dies_typeInfo{t:TypeId}{α:Type}{g:TypeInfo→Sem α}(h:∀i,P.info? t=some i→Dies P K (g i)):Dies P K (typeInfo t >>= g):=fun v es hv=>by
 have e:Sem.runT P (typeInfo t >>= g) v es=Sem.runT P ((match P.info? t with|some i=>pure i|none=>stuck "no such type" : Sem TypeInfo) >>= g) v es:=rfl
 rw[e]
 cases hi:P.info? t with
 |none=>exact Dies.bind (dies_stuck _) g v es hv
 |some i=>exact h i hi v es hv
theorem r_noMethod{t:TypeId}(ht:P.types.size≤t)(n:Nat)(x:Value)(name:String){α:Type}{Q:FuncId×Value→α→Prop}{s':Sem α}:SRel P f K Q (method n t x name) s':=by
 cases n with
 |zero=>exact r_unsupported
 |succ n=>
  unfold method
  refine .dies (dies_typeInfo fun i hi=>?_)
  rw[meth_info ht hi]
  exact dies_stuck _
theorem dies_noMethod{t:TypeId}(ht:P.types.size≤t)(n:Nat)(x:Value)(name:String):Dies P K (method n t x name):=by
 cases n with
 |zero=>exact dies_unsupported _
 |succ n=>
  unfold method
  refine dies_typeInfo fun i hi=>?_
  rw[meth_info ht hi]
  exact dies_stuck _
theorem r_method(hz:ZeroOK P):∀(n:Nat) (t:TypeId) (x:Value) (name:String),SRel P f K (fun a b=>b=(a.1,val f a.2)) (method n t x name) (method n t (val f x) name)
 |0,_,_,_=>r_unsupported
 |n+1,t,x,name=>by
  unfold method
  refine r_bind (r_typeInfo t) ?_
  rintro _ i ⟨rfl,_⟩
  dsimp only
  cases i.methods.find? (·.name==name) with
  |none=>exact r_stuck
  |some m=>
   dsimp only
   refine r_bind (r_follow m.path.toList t (.val x)) ?_
   rintro⟨u,y⟩ _ rfl
   dsimp only
   cases m.func with
   |none=>
    dsimp only
    refine r_bind (r_get u y) ?_
    rintro v _ rfl
    cases v with
    |iface t' v'=>
     by_cases ht:t'<tyTop
     .simp only[val_iface,ifv_lt ht];exact r_method hz n t' v' name
     .exact r_noMethod (Nat.le_trans hz.types (Nat.not_lt.1 ht)) n v' name
    |nilIface=>exact r_runtimePanic _
    |_=>exact r_stuck
   |some fp=>
    obtain⟨g,p⟩:=fp
    dsimp only
    refine r_bind (r_receiverAt u y p _) ?_
    rintro v _ rfl
    exact r_pure rfl
theorem ra_lenOf(x:Value):SRel P f K (fun a b=>b=a) (Builtin.lenOf x) (Builtin.lenOf (val f x)):=by
 cases x with
 |slice a n c=>simp only[val_slice];exact r_pure rfl
 |string s=>simp only[val_string];exact r_pure rfl
 |_=>exact r_stuck
theorem ra_firstCells(s n:Nat)(x:Value):SRel P f K (fun a b=>b=vals f a) (Builtin.firstCells s n x) (Builtin.firstCells s n (val f x)):=by
 cases x with
 |slice a l c=>
  cases a with
  |none=>simp only[val_slice,Option.map_none];exact r_pure (by simp[vals])
  |some a=>simp only[val_slice,Option.map_some];exact r_loadCells a _
 |string s=>
  simp only[val_string]
  refine r_pure ?_
  unfold vals
  rw[Array.map_map]
  exact Array.map_congr_left fun x _=>by simp
 |_=>exact r_stuck
theorem r_askRoom(n:Nat):SRel P f K (fun _ _:Unit=>True) (askRoom n) (askRoom n):=by
 unfold askRoom
 exact r_ite (fun _=>r_mark) (fun _=>r_pure trivial)
theorem calm_askMark:Calm P K (Go.mark .noRoom):=fun _ _ hv=>hv
theorem calm_shape(r:Nat):Calm P K (shape r):=fun _ _ hv=>hv
theorem calm_frozen(a:Addr):Calm P K (frozen a):=fun _ _ hv=>hv
theorem calm_ite{α:Type}{c:Prop}[Decidable c]{a b:Sem α}(h:Calm P K a)(h':Calm P K b):Calm P K (if c then a else b):=by split<;>assumption
theorem calm_holdsCells(a:Addr)(n:Nat):Calm P K (Builtin.holdsCells a n):=by
 unfold Builtin.holdsCells
 refine Calm.bind (calm_shape _) fun s=>?_
 split<;>exact calm_pure _
theorem calm_mayShare(size sLen n:Nat)(base:Option Addr)(x:Value):Calm P K (Builtin.mayShare size sLen n base x):=by
 unfold Builtin.mayShare
 have tail:∀there:Bool,Calm P K (if (!there)=true then pure true else match x with
   |.slice (some b) _ _=>Builtin.holdsCells b (n*size) >>= fun h=>pure (!h||base.any (·.block==b.block))
   |_=>pure false):=fun there=>by
  refine calm_ite (calm_pure _) ?_
  split
  .exact Calm.bind (calm_holdsCells _ _) fun _=>calm_pure _
  .exact calm_pure _
 cases base with
 |none=>exact Calm.bind (calm_pure true) tail
 |some a=>exact Calm.bind (calm_holdsCells _ _) fun h=>Calm.bind (calm_frozen _) fun b=>Calm.bind (calm_pure _) tail
theorem vals_zeroCells(f:Nat→Nat){z:Value}(hc:closedB z=true)(n:Nat):vals f (Builtin.zeroCells z.cells n)=Builtin.zeroCells z.cells n:=vals_repeat f hc _
def AppOK(P:Program)(ts:Array TypeId):Prop:=∀t1 k,ts[1]?=some t1→P.underlying t1≠some (.int k)
def app2(elem size:Nat)(base:Option Addr)(sLen sCap n:Nat)(x:Value):Sem Value:=
 choose (.appendCap (sLen+n) sCap elem) >>= fun newCap=>typeInfo elem >>= fun i=>askRoom (newCap*i.bytes) >>= fun _=>
  Builtin.firstCells size sLen (.slice base sLen sCap) >>= fun old=>Builtin.firstCells size n x >>= fun new=>zeroValue elem >>= fun z=>
   newRow elem (old++new++Builtin.zeroCells z.cells (newCap-(sLen+n))) >>= fun a=>pure (.slice (some a) (sLen+n) newCap)
def app1(elem size:Nat)(base:Option Addr)(sLen sCap n:Nat)(x:Value):Sem Value:=
 typeInfo elem >>= fun i=>if Builtin.nextslicecap (sLen+n) sCap*i.bytes>2 ^ 48 then
  (Builtin.mayShare size sLen n base x >>= fun b=>if (!b)=true then Go.mark .noRoom >>= fun _=>unsupported (.resourceLimit "append: a slice or a string whose bytes no memory bears")
   else unsupported (.resourceLimit "append: a slice or a string whose bytes no memory bears")) >>= fun _:Unit=>app2 elem size base sLen sCap n x
  else app2 elem size base sLen sCap n x
def app0(elem size:Nat)(base:Option Addr)(sLen sCap:Nat)(x:Value):Sem Value:=
 Builtin.lenOf x >>= fun n=>if sLen+n≤sCap then
   Builtin.firstCells size n x >>= fun new=>(match base with
    |some a=>storeCells (a.add (sLen*size)) new.toList >>= fun _=>pure (.slice base (sLen+n) sCap)
    |none=>pure (.slice base (sLen+n) sCap))
  else typeInfo elem >>= fun i=>if ((sLen+n:Nat):Int)>IntKind.i64.max∧(false=true∨i.bytes=0) then runtimePanic (.error "growslice: len out of range") >>= fun _:Unit=>app1 elem size base sLen sCap n x
   else app1 elem size base sLen sCap n x
theorem r_app2(hz:ZeroOK P)(elem size:Nat)(base:Option Addr)(sLen sCap n:Nat)(x:Value):SRel P f K (ToVal f) (app2 elem size base sLen sCap n x) (app2 elem size (base.map (addr f)) sLen sCap n (val f x)):=by
 unfold app2
 refine r_bind (r_choose _) ?_
 rintro newCap _ rfl
 refine r_bind (r_typeInfo _) ?_
 rintro _ i3 ⟨rfl,_⟩
 refine r_bind (r_askRoom _) ?_
 rintro _ _ _
 refine r_bind (by simpa using ra_firstCells (P:=P) (f:=f) (K:=K) size sLen (.slice base sLen sCap)) ?_
 rintro old _ rfl
 refine r_bind (ra_firstCells _ _ _) ?_
 rintro new _ rfl
 refine r_bind (r_zeroValue hz _) ?_
 rintro _ z ⟨rfl,hc⟩
 have e:vals f (old++new++Builtin.zeroCells z.cells (newCap-(sLen+n)))=vals f old++vals f new++Builtin.zeroCells z.cells (newCap-(sLen+n)):=by
  rw[show ∀a b:Array Value,vals f (a++b)=vals f a++vals f b from fun a b=>by simp[vals],show ∀a b:Array Value,vals f (a++b)=vals f a++vals f b from fun a b=>by simp[vals],vals_zeroCells f hc]
 refine r_bind (by have:=r_newRow (P:=P) (f:=f) (K:=K) elem (old++new++Builtin.zeroCells z.cells (newCap-(sLen+n)));rwa[e] at this) ?_
 rintro a _ rfl
 exact r_pure (by simp[ToVal])
theorem r_app1(hz:ZeroOK P)(elem size:Nat)(base:Option Addr)(sLen sCap n:Nat)(x:Value):SRel P f K (ToVal f) (app1 elem size base sLen sCap n x) (app1 elem size (base.map (addr f)) sLen sCap n (val f x)):=by
 unfold app1
 refine r_bind (r_typeInfo _) ?_
 rintro _ i2 ⟨rfl,_⟩
 refine r_ite (fun _=>Dies.rel ?_) (fun _=>r_app2 hz ..)
 refine .bind ?_ _
 refine .after (calm_mayShare _ _ _ _ _) fun b=>?_
 split
 .exact .after calm_askMark fun _=>dies_unsupported _
 .exact dies_unsupported _
theorem r_app0(hz:ZeroOK P)(elem size:Nat)(base:Option Addr)(sLen sCap:Nat)(x:Value):SRel P f K (ToVal f) (app0 elem size base sLen sCap x) (app0 elem size (base.map (addr f)) sLen sCap (val f x)):=by
 unfold app0
 refine r_bind (ra_lenOf _) ?_
 rintro _ n rfl
 refine r_ite (fun _=>?_) (fun _=>?_)
 .refine r_bind (ra_firstCells _ _ _) ?_
  rintro new _ rfl
  cases base with
  |none=>simp only[Option.map_none];exact r_pure (by simp[ToVal])
  |some a=>
   simp only[Option.map_some]
   refine r_bind (Q:=fun _ _=>True) ?_ ?_
   .have:=r_storeCells (P:=P) (f:=f) (K:=K) (a.add (sLen*size)) new.toList 0
    rw[addr_add] at this
    simpa[vals] using this
   .rintro _ _ _
    exact r_pure (by simp[ToVal])
 .refine r_bind (r_typeInfo _) ?_
  rintro _ i ⟨rfl,_⟩
  exact r_ite (fun _=>Dies.rel (.bind (dies_runtimePanic _) _)) (fun _=>r_app1 hz ..)
theorem r_append(hz:ZeroOK P){ts:Array TypeId}(hts:AppOK P ts)(t:TypeId)(args:Array Value):SRel P f K (ToVal f) (Builtin.append_ ts t args) (Builtin.append_ ts t (vals f args)):=by
 unfold Builtin.append_
 simp only[vals_get?]
 cases h0:ts[0]? with
 |none=>exact r_stuck
 |some t0=>
  cases h1:args[0]? with
  |none=>exact r_stuck
  |some s=>
   cases h2:args[1]? with
   |none=>exact r_stuck
   |some x=>
    simp only[Option.map_some]
    refine r_bind (r_underlying _) ?_
    rintro _ d ⟨rfl,_⟩
    cases d with
    |slice elem=>
     cases s with
     |slice base sLen sCap=>
      simp only[val_slice]
      refine r_bind (r_sizeOf _) ?_
      rintro _ size ⟨rfl,_⟩
      have key:=r_app0 (f:=f) (K:=K) hz elem size base sLen sCap x
      cases h3:ts[1]? with
      |none=>cases base<;>exact key
      |some t1=>
       refine r_bind (r_underlying _) ?_
       rintro _ d ⟨rfl,hd⟩
       have hne:=fun k=>hts t1 k h3
       cases d with
       |int k=>exact absurd hd (hne k)
       |_=>cases base<;>exact key
     |_=>exact r_stuck
    |_=>exact r_stuck
theorem r_copy(ts:Array TypeId)(t:TypeId)(args:Array Value):SRel P f K (ToVal f) (Builtin.copy_ ts t args) (Builtin.copy_ ts t (vals f args)):=by
 unfold Builtin.copy_
 simp only[vals_get?]
 cases h0:ts[0]? with
 |none=>exact r_stuck
 |some t0=>
  cases h1:args[0]? with
  |none=>exact r_stuck
  |some s=>
   cases h2:args[1]? with
   |none=>exact r_stuck
   |some x=>
    simp only[Option.map_some]
    refine r_bind (r_underlying _) ?_
    rintro _ d ⟨rfl,_⟩
    cases d with
    |slice elem=>
     cases s with
     |slice base sLen sCap=>
      simp only[val_slice]
      refine r_bind (ra_lenOf _) ?_
      rintro _ n rfl
      refine r_bind (r_sizeOf _) ?_
      rintro _ size ⟨rfl,_⟩
      refine r_bind (ra_firstCells _ _ _) ?_
      rintro cells _ rfl
      cases base with
      |none=>simp only[Option.map_none];exact r_pure (by simp[ToVal,goInt])
      |some a=>
       simp only[Option.map_some]
       refine r_bind (Q:=fun _ _=>True) ?_ ?_
       .have:=r_storeCells (P:=P) (f:=f) (K:=K) a cells.toList 0
        simpa[vals] using this
       .rintro _ _ _
        exact r_pure (by simp[ToVal,goInt])
     |_=>exact r_stuck
    |_=>exact r_stuck
theorem r_cap(ts:Array TypeId)(h:∀t0,ts[0]?=some t0→∃e,P.underlying t0=some (.slice e))(t:TypeId)(args:Array Value):SRel P f K (ToVal f) (Builtin.cap_ ts t args) (Builtin.cap_ ts t (vals f args)):=by
 unfold Builtin.cap_
 simp only[vals_get?]
 cases h0:ts[0]? with
 |none=>exact r_stuck
 |some t0=>
  obtain⟨e,he⟩:=h t0 h0
  cases h1:args[0]? with
  |none=>exact r_stuck
  |some x=>
   simp only[Option.map_some]
   refine r_bind (r_underlying _) ?_
   rintro _ d ⟨rfl,hd⟩
   rw[he] at hd
   obtain rfl:=Option.some.inj hd
   cases x with
   |slice a l c=>simp only[val_slice];exact r_pure (by simp[ToVal,goInt])
   |_=>exact r_stuck
theorem r_buildSlice(hz:ZeroOK P)(t:TypeId)(len:Nat)(ps ps':Array (Nat×Value))(hp:ps'=ps.map fun x=>(x.1,val f x.2)):SRel P f K (ToVal f) (Instr.buildSlice t len ps) (Instr.buildSlice t len ps'):=by
 subst hp
 unfold Instr.buildSlice
 refine r_bind (r_underlying t) ?_
 rintro _ d ⟨rfl,_⟩
 cases d with
 |slice elem=>
  refine r_bind (r_sizeOf _) ?_
  rintro _ n ⟨rfl,_⟩
  refine r_ite (fun _=>Dies.rel (.bind (dies_unsupported _) _)) (fun _=>?_)
  have fin:∀z:Array Value,vals f ((Array.range (len*n)).map (z[· % z.size]!))=(Array.range (len*n)).map (z[· % z.size]!) →
    Instr.fill (fun i=>some (i*n,n)) ((Array.range (len*n)).map (z[· % z.size]!)) (ps.toList.map fun x=>(x.1,val f x.2))=(Instr.fill (fun i=>some (i*n,n)) ((Array.range (len*n)).map (z[· % z.size]!)) ps.toList).map (vals f):=fun z hzz=>by
   have:=fill_vals f (fun i=>some (i*n,n)) ps.toList ((Array.range (len*n)).map (z[· % z.size]!))
   rwa[hzz] at this
  simp only[Array.toList_map]
  refine r_ite (fun h0=>?_) (fun _=>?_)
  .refine r_bind (r_pure (Q:=fun a b=>b=a∧a=#[]) ⟨rfl,rfl⟩) ?_
   rintro _ z ⟨rfl,rfl⟩
   rw[fin #[] (by rw[h0];simp[vals])]
   cases Instr.fill (fun i=>some (i*n,n)) ((Array.range (len*n)).map fun x=>(#[]:Array Value)[x % (#[]:Array Value).size]!) ps.toList with
   |none=>exact r_stuck
   |some c=>
    refine r_bind (r_newRow elem c) ?_
    rintro a _ rfl
    exact r_pure (by simp[ToVal])
  .refine r_bind (r_zeroValue hz elem) ?_
   rintro _ z ⟨rfl,hc⟩
   refine r_bind (r_pure (Q:=fun a b=>b=a∧a=z.cells) ⟨rfl,rfl⟩) ?_
   rintro _ z2 ⟨rfl,rfl⟩
   rw[fin z.cells (vals_repeat f hc _)]
   cases Instr.fill (fun i=>some (i*n,n)) ((Array.range (len*n)).map fun x=>z.cells[x % z.cells.size]!) ps.toList with
   |none=>exact r_stuck
   |some c=>
    refine r_bind (r_newRow elem c) ?_
    rintro a _ rfl
    exact r_pure (by simp[ToVal])
 |_=>exact r_stuck
theorem r_makeMap(t:TypeId)(r:Option Value):SRel P f K (ToVal f) (Instr.makeMap t r) (Instr.makeMap t (r.map (val f))):=by
 have tail:SRel P f K (ToVal f) (newObj (.map #[] 0) >>= fun r=>pure (.map (some r))) (newObj (.map #[] 0) >>= fun r=>pure (.map (some r))):=by
  refine r_bind (r_newObj (f:=f) (K:=K) rfl trivial (by simp[obj])) ?_
  rintro a _ rfl
  exact r_pure (by simp[ToVal])
 unfold Instr.makeMap
 cases r with
 |none=>exact tail
 |some h=>
  refine r_bind (r_underlying t) ?_
  rintro _ d ⟨rfl,_⟩
  cases d with
  |map k e=>
   refine r_bind (r_asInt h) ?_
   rintro _ n rfl
   exact tail
  |_=>exact r_stuck
theorem r_checkKey(b:Bool):∀(n:Nat) (t:TypeId) (v:Value),EqT P t→SRel P f K (fun _ _:Unit=>True) (Instr.checkKey b n t v) (Instr.checkKey b n t (val f v))
 |0,t,v,_=>r_unsupported
 |n+1,t,v,ht=>by
  unfold Instr.checkKey
  refine r_bind (r_underlying t) ?_
  rintro _ d ⟨rfl,hd⟩
  have hi:=ht.inv hd
  cases d<;>first
   |exact hi.elim
   |(cases v<;>exact r_pure trivial)
   |skip
  .cases v with
   |agg cs=>
    simp only[val_agg]
    simp only[Std.Legacy.Range.forIn_eq_forIn_range']
    refine r_bind (Q:=fun _ _=>True) (mem_forIn _ _ _ (fun i _ x y hxy=>?_) _ _ trivial) (fun _ _ _=>r_pure trivial)
    refine r_bind (r_sizeOf _) ?_
    rintro _ m ⟨rfl,_⟩
    refine r_bind (r_part _ _ _) ?_
    rintro p _ rfl
    refine r_bind (r_checkKey b n _ p hi) ?_
    rintro _ _ _
    exact r_pure trivial
   |_=>exact r_stuck
  .
   cases v with
   |agg cs=>
    simp only[val_agg]
    simp only[←Array.forIn_toList]
    refine r_bind (Q:=fun _ _=>True) (mem_forIn _ _ _ (fun g hg x y hxy=>?_) _ _ trivial) (fun _ _ _=>r_pure trivial)
    refine r_ite (fun _=>?_) (fun _=>r_pure trivial)
    refine r_bind (r_part _ _ _) ?_
    rintro p _ rfl
    refine r_bind (r_checkKey b n g.type p (hi g (Array.mem_toList_iff.1 hg))) ?_
    rintro _ _ _
    exact r_pure trivial
   |_=>exact r_stuck
abbrev Ent(f:Nat→Nat)(es:List MapEntry):List MapEntry:=es.map (entry f)
theorem sameNow_l(d:TypeDesc){a:Value}(b:Value)(h:wildB a=true):Instr.sameNow d a b=none:=by
 cases d<;>cases a<;>first|(cases h;done)|rfl|(simp[Instr.sameNow])
theorem sameNow_r(d:TypeDesc)(a:Value){b:Value}(h:wildB b=true):Instr.sameNow d a b=none:=by
 cases d<;>cases b<;>first|(cases h;done)|rfl|(simp[Instr.sameNow])
theorem sameNow_val(f:Nat→Nat)(d:TypeDesc)(a b:Value):Instr.sameNow d (val f a) (val f b)=Instr.sameNow d a b:=by
 cases a with
 |iface t x=>rw[val_iface,sameNow_l d _ (ifv_wild t x _),sameNow_l d _ rfl]
 |_=>
  cases b with
  |iface t x=>rw[val_iface,sameNow_r d _ (ifv_wild t x _),sameNow_r d _ rfl]
  |_=>cases d<;>simp[Instr.sameNow]
theorem findNow_val(f:Nat→Nat)(d:TypeDesc)(k:Value):∀(es:List MapEntry) (i:Nat),Instr.findNow d (val f k) (Ent f es) i=(Instr.findNow d k es i).map (fun r=>r.map fun x=>(x.1,val f x.2))
 |[],i=>rfl
 |e::es,i=>by
  simp only[Ent,List.map_cons,Instr.findNow]
  rw[show(entry f e).key=val f e.key from rfl,sameNow_val]
  cases Instr.sameNow d k e.key with
  |none=>rfl
  |some b=>
   cases b with
   |true=>rfl
   |false=>exact findNow_val f d k es (i+1)
abbrev RF(f:Nat→Nat):Option (Nat×Value)→Option (Nat×Value)→Prop:=fun a b=>b=a.map fun x=>(x.1,val f x.2)
theorem r_findAsking(hf:Inj f)(hx:Fix P f)(kt:TypeId)(hk:EqT P kt)(k:Value):∀(es:List MapEntry) (i:Nat),SRel P f K (RF f) (Instr.findAsking kt k es i) (Instr.findAsking kt (val f k) (Ent f es) i)
 |[],i=>r_pure rfl
 |e::es,i=>by
  simp only[Ent,List.map_cons,Instr.findAsking]
  refine r_bind (r_equal hf hx kt k e.key hk) ?_
  rintro _ b rfl
  exact r_ite (fun _=>r_pure rfl) (fun _=>r_findAsking hf hx kt hk k es (i+1))
theorem r_findKey(hf:Inj f)(hx:Fix P f)(kt:TypeId)(hk:EqT P kt)(k:Value)(es:List MapEntry):SRel P f K (RF f) (Instr.findKey kt k es) (Instr.findKey kt (val f k) (Ent f es)):=by
 unfold Instr.findKey
 refine r_bind (r_underlying _) ?_
 rintro _ d ⟨rfl,_⟩
 rw[findNow_val]
 cases Instr.findNow d k es 0 with
 |some r=>exact r_pure rfl
 |none=>exact r_findAsking hf hx kt hk k es 0
theorem ifv_maps(h:Mps.maps=true)(t:TypeId)(x:Value):ifv t x (val f x)=.iface t (if t<tyTop then val f x else x):=by
 unfold ifv
 split
 .rfl
 .exact Ext.none h t x
theorem sameBits_val(hm:Mps.maps=true)(hf:Inj f):∀(n:Nat) (a b:Value),Instr.sameBits n (val f a) (val f b)=Instr.sameBits n a b:=by
 intro n
 induction n with
 |zero=>
  intro a b
  cases a<;>cases b<;>simp only[val_bool,val_int,val_float,val_complex,val_string,val_pointer,val_slice,val_map,val_chan,val_func,val_nilFunc,val_nilIface,val_iface,ifv_maps hm,val_agg,val_tuple,Instr.sameBits]
  .rename_i x y
   cases x<;>cases y<;>simp[addr_inj hf]
  .exact opt_inj hf _ _
 |succ n ih=>
  intro a b
  cases a<;>cases b<;>simp only[val_bool,val_int,val_float,val_complex,val_string,val_pointer,val_slice,val_map,val_chan,val_func,val_nilFunc,val_nilIface,val_iface,ifv_maps hm,val_agg,val_tuple,Instr.sameBits,ih]
  .rename_i x y
   cases x<;>cases y<;>simp[addr_inj hf]
  .exact opt_inj hf _ _
  .rename_i t x u y
   by_cases e:t=u
   .subst e
    by_cases h:t<tyTop
    .rw[if_pos h,if_pos h,ih]
    .rw[if_neg h,if_neg h]
   .rw[show(t==u)=false by simpa using e,Bool.false_and,Bool.false_and]
  .rename_i x y
   simp only[vals_size]
   congr 1
   rw[show(vals f x).toList=x.toList.map (val f) by simp[vals],show(vals f y).toList=y.toList.map (val f) by simp[vals]]
   generalize x.toList=l
   generalize y.toList=m
   induction l generalizing m with
   |nil=>simp
   |cons a l ihl=>
    cases m with
    |nil=>simp
    |cons b m=>simp only[List.map_cons,List.zip_cons_cons,List.all_cons,ih,ihl m]
theorem r_keyThatStays(hm:Mps.maps=true)(hf:Inj f)(a b:Value):SRel P f K (ToVal f) (Instr.keyThatStays a b) (Instr.keyThatStays (val f a) (val f b)):=by
 unfold Instr.keyThatStays
 rw[sameBits_val hm hf]
 refine r_ite (fun _=>r_pure rfl) (fun _=>?_)
 refine r_bind (r_choose _) ?_
 rintro _ n rfl
 refine r_pure ?_
 dsimp only[ToVal]
 split<;>rfl
def MapOK(P:Program)(t:TypeId):Prop:=Mps.maps=true∧∀k e,P.underlying t=some (.map k e)→EqT P k
theorem r_mapObj(r:Nat){α β:Type}{Q:α→β→Prop}{g:Array MapEntry→Nat→Sem α}{g':Array MapEntry→Nat→Sem β}{why:String}
  (h:∀es c,SRel P f K Q (g es c) (g' (es.map (entry f)) c)) :
  SRel P f K Q (getObj r >>= fun o=>match o with|.map es c=>g es c|_=>stuck why) (getObj (f r) >>= fun o=>match o with|.map es c=>g' es c|_=>stuck why):=by
 refine r_bind (r_getObj r) ?_
 rintro o o' (⟨_,_,rfl⟩|hh)
 .cases o with
  |map es c=>exact h es c
  |_=>exact r_stuck
 .rcases hh.lone with⟨_,_,_,_,_,_,rfl⟩|⟨_,rfl⟩<;>exact r_stuck
theorem r_lookup(hz:ZeroOK P)(hf:Inj f)(hx:Fix P f){t:TypeId}(ht:MapOK P t)(x i:Value)(ok:Bool):SRel P f K (ToVal f) (Instr.lookup t x i ok) (Instr.lookup t (val f x) (val f i) ok):=by
 unfold Instr.lookup
 refine r_bind (r_underlying t) ?_
 rintro _ d ⟨rfl,hd⟩
 cases d with
 |map key elem=>
  have hk:=ht.2 key elem hd
  cases x with
  |map o=>
   cases o with
   |none=>
    simp only[val_map,Option.map_none]
    refine r_bind (r_pure (Q:=fun a b=>b=a∧a=#[]) ⟨rfl,rfl⟩) ?_
    rintro _ _ ⟨rfl,rfl⟩
    refine r_bind (r_checkKey _ _ _ _ hk) ?_
    rintro _ _ _
    refine r_bind (r_findKey hf hx key hk i []) ?_
    rintro r _ rfl
    cases r with
    |some y=>
     obtain⟨j,v⟩:=y
     exact r_bind (r_pure (Q:=fun a b=>b=(val f a.1,a.2)) rfl) (by rintro⟨v,b⟩ _ rfl;exact r_pure (by dsimp only[ToVal];split<;>simp[vals]))
    |none=>
     refine r_bind (r_zeroValue hz _) ?_
     rintro _ z ⟨rfl,hc⟩
     exact r_bind (r_pure (Q:=fun a b=>b=(val f a.1,a.2)) (by rw[closedB_closed hc f])) (by rintro⟨v,b⟩ _ rfl;exact r_pure (by dsimp only[ToVal];split<;>simp[vals]))
   |some r=>
    simp only[val_map,Option.map_some]
    refine r_mapObj r fun es c=>?_
    refine r_bind (r_pure (Q:=fun a b=>b=a.map (entry f)∧a=es) ⟨rfl,rfl⟩) ?_
    rintro _ _ ⟨rfl,rfl⟩
    rename_i es
    rw[show(es.map (entry f)).isEmpty=es.isEmpty by simp[Array.isEmpty]]
    refine r_bind (r_checkKey _ _ _ _ hk) ?_
    rintro _ _ _
    rw[Array.toList_map]
    refine r_bind (r_findKey hf hx key hk i es.toList) ?_
    rintro r _ rfl
    cases r with
    |some y=>
     obtain⟨j,v⟩:=y
     exact r_bind (r_pure (Q:=fun a b=>b=(val f a.1,a.2)) rfl) (by rintro⟨v,b⟩ _ rfl;exact r_pure (by dsimp only[ToVal];split<;>simp[vals]))
    |none=>
     refine r_bind (r_zeroValue hz _) ?_
     rintro _ z ⟨rfl,hc⟩
     exact r_bind (r_pure (Q:=fun a b=>b=(val f a.1,a.2)) (by rw[closedB_closed hc f])) (by rintro⟨v,b⟩ _ rfl;exact r_pure (by dsimp only[ToVal];split<;>simp[vals]))
  |_=>exact r_stuck
 |_=>exact r_stuck
theorem modify_entry(es:Array MapEntry)(i:Nat)(g g':MapEntry→MapEntry)(h:∀e,g' (entry f e)=entry f (g e)):(es.map (entry f)).modify i g'=(es.modify i g).map (entry f):=by
 refine Array.ext (by simp) fun j h1 h2=>?_
 simp only[Array.size_map,Array.size_modify] at h1 h2
 simp only[Array.getElem_modify,Array.getElem_map]
 split<;>simp[h]
theorem getD_key(es:Array MapEntry)(i:Nat)(k:Value):(((es.map (entry f))[i]?).map (·.key)).getD (val f k)=val f (((es[i]?).map (·.key)).getD k):=by
 simp only[Array.getElem?_map]
 cases es[i]?<;>rfl
theorem r_mapUpdate(hf:Inj f)(hx:Fix P f){t:TypeId}(ht:MapOK P t)(m k x:Value):SRel P f K (fun _ _:Unit=>True) (Instr.mapUpdate t m k x) (Instr.mapUpdate t (val f m) (val f k) (val f x)):=by
 unfold Instr.mapUpdate
 refine r_bind (r_underlying t) ?_
 rintro _ d ⟨rfl,hd⟩
 cases d with
 |map key elem=>
  have hk:=ht.2 key elem hd
  cases m with
  |map o=>
   cases o with
   |none=>simp only[val_map,Option.map_none];exact r_runtimePanic _
   |some r=>
    simp only[val_map,Option.map_some]
    refine r_mapObj r fun es c=>?_
    refine r_bind (r_checkKey _ _ _ _ hk) ?_
    rintro _ _ _
    rw[Array.toList_map]
    refine r_bind (r_findKey hf hx key hk k es.toList) ?_
    rintro q _ rfl
    cases q with
    |some y=>
     obtain⟨j,v⟩:=y
     simp only[Option.map_some]
     rw[getD_key]
     refine r_bind (r_keyThatStays ht.1 hf _ _) ?_
     rintro k2 _ rfl
     refine r_setObj rfl trivial (fun _ _ _=>by simp) ?_
     simp only[obj]
     rw[modify_entry]
     intro e;rfl
    |none=>
     refine r_setObj rfl trivial (fun _ _ _=>by simp) ?_
     simp[obj,entry]
  |_=>exact r_stuck
 |_=>exact r_stuck
theorem r_mapEntry(hz:ZeroOK P)(hf:Inj f)(hx:Fix P f){t:TypeId}(ht:MapOK P t)(m k:Value):SRel P f K (ToVal f) (Instr.mapEntry t m k) (Instr.mapEntry t (val f m) (val f k)):=by
 unfold Instr.mapEntry
 refine r_bind (r_underlying t) ?_
 rintro _ d ⟨rfl,hd⟩
 cases d with
 |map key elem=>
  have hk:=ht.2 key elem hd
  cases m with
  |map o=>
   cases o with
   |none=>simp only[val_map,Option.map_none];exact r_runtimePanic _
   |some r=>
    simp only[val_map,Option.map_some]
    refine r_mapObj r fun es c=>?_
    refine r_bind (r_checkKey _ _ _ _ hk) ?_
    rintro _ _ _
    rw[Array.toList_map]
    refine r_bind (r_findKey hf hx key hk k es.toList) ?_
    rintro q _ rfl
    cases q with
    |some y=>
     obtain⟨j,v⟩:=y
     simp only[Option.map_some]
     rw[getD_key]
     refine r_bind (r_keyThatStays ht.1 hf _ _) ?_
     rintro k2 _ rfl
     refine r_bind (r_setObj (o':=.map ((es.map (entry f)).modify j fun e=>{e with key:=val f k2}) c) rfl trivial (fun _ _ _=>by simp) ?_) ?_
     .simp only[obj]
      rw[modify_entry]
      intro e;rfl
     .rintro _ _ _
      refine r_pure ?_
      simp only[ToVal,val_tuple,vals,Array.getElem?_map]
      cases es[j]?<;>simp[goInt,entry]
    |none=>
     refine r_bind (r_zeroValue hz _) ?_
     rintro _ z ⟨rfl,hc⟩
     refine r_bind (r_setObj rfl trivial (fun _ _ _=>by simp) (by simp[obj,entry,closedB_closed hc f])) ?_
     rintro _ _ _
     exact r_pure (by simp[ToVal,vals,goInt,closedB_closed hc f])
  |_=>exact r_stuck
 |_=>exact r_stuck
theorem findIdx_entry(es:Array MapEntry)(p:MapEntry→Bool)(h:∀e,p (entry f e)=p e):(es.map (entry f)).findIdx? p=es.findIdx? p:=by
 rw[Array.findIdx?_map]
 congr 1
 funext e
 exact h e
theorem r_entryStore(t:TypeId)(m s x:Value):SRel P f K (fun _ _:Unit=>True) (Instr.entryStore t m s x) (Instr.entryStore t (val f m) (val f s) (val f x)):=by
 unfold Instr.entryStore
 cases m with
 |map o=>
  cases o with
  |none=>simp only[val_map,Option.map_none];exact r_stuck
  |some r=>
   simp only[val_map,Option.map_some]
   refine r_mapObj r fun es c=>?_
   refine r_bind (r_asInt s) ?_
   rintro _ born rfl
   rw[findIdx_entry es _ fun e=>rfl]
   cases es.findIdx? fun e=>(e.born:Int)==born with
   |none=>exact r_unsupported
   |some i=>
    refine r_setObj rfl trivial (fun _ _ _=>by simp) ?_
    simp only[obj]
    rw[modify_entry]
    intro e;rfl
 |_=>exact r_stuck
theorem r_range(t:TypeId)(x:Value):SRel P f K (ToVal f) (Instr.range t x) (Instr.range t (val f x)):=by
 unfold Instr.range
 refine r_bind (r_underlying t) ?_
 rintro _ d ⟨rfl,_⟩
 have tail:∀o:Obj,plain o=true→GoodObj K o→SRel P f K (ToVal f) (newObj o >>= fun r=>pure (.pointer (some ⟨r,0,none⟩))) (newObj (obj f o) >>= fun r=>pure (.pointer (some ⟨r,0,none⟩))):=fun o hp hg=>by
  refine r_bind (r_newObj hp hg rfl) ?_
  rintro a _ rfl
  exact r_pure (by simp[ToVal,addr])
 cases d with
 |string=>
  cases x with
  |string s=>simp only[val_string];exact tail (.stringIter s 0) rfl trivial
  |_=>exact r_stuck
 |map k e=>
  cases x with
  |map o=>
   cases o with
   |none=>simp only[val_map,Option.map_none];exact tail (.mapIter none 0 #[] 0) rfl trivial
   |some r=>
    simp only[val_map,Option.map_some]
    refine r_mapObj r fun es c=>?_
    exact tail (.mapIter (some r) c #[] c) rfl trivial
  |_=>exact r_stuck
 |_=>exact r_stuck
theorem filter_entry(es:Array MapEntry)(p:MapEntry→Bool)(h:∀e,p (entry f e)=p e):(es.map (entry f)).filter p=(es.filter p).map (entry f):=by
 rw[Array.filter_map]
 congr 2
 funext e
 exact h e
theorem all_entry(es:Array MapEntry)(p:MapEntry→Bool)(h:∀e,p (entry f e)=p e):(es.map (entry f)).all p=es.all p:=by
 rw[Array.all_map]
 congr 1
 funext e
 exact h e
theorem r_next(it:Value)(b:Bool)(t:TypeId):SRel P f K (ToVal f) (Instr.next it b t) (Instr.next (val f it) b t):=by
 unfold Instr.next
 have over:SRel P f K (ToVal f) (pure (.tuple #[.bool false])) (pure (.tuple #[.bool false])):=r_pure (by simp[ToVal,vals])
 cases it with
 |pointer o=>
  cases o with
  |none=>exact r_stuck
  |some a=>
   obtain⟨r,off,spot⟩:=a
   simp only[val_pointer,Option.map_some,addr]
   cases off with
   |succ n=>exact r_stuck
   |zero=>
    refine r_bind (r_getObj r) ?_
    rintro o o' (⟨_,_,rfl⟩|hh)
    .cases o with
     |stringIter s pos=>
      cases b with
      |false=>exact r_stuck
      |true=>
       simp only[obj]
       refine r_ite (fun _=>?_) (fun _=>over)
       refine r_bind (r_setObj rfl trivial (fun _ _ _=>by simp) (by simp[obj])) ?_
       rintro _ _ _
       exact r_pure (by simp[ToVal,vals,goInt])
     |mapIter m since seen last=>
      cases b with
      |true=>cases m<;>exact r_stuck
      |false=>
       cases m with
       |none=>exact over
       |some m=>
        simp only[obj,Option.map_some]
        refine r_mapObj m fun es c=>?_
        rw[all_entry es _ fun e=>rfl,filter_entry es _ fun e=>rfl,show(es.map (entry f)).isEmpty=es.isEmpty by simp[Array.isEmpty]]
        refine r_ite (fun _=>Dies.rel (.bind (dies_unsupported _) _)) (fun _=>?_)
        generalize es.filter (fun e=>!seen.contains e.born)=left
        rw[filter_entry left _ fun e=>rfl,filter_entry left _ fun e=>rfl,←Array.map_append]
        generalize left.filter (fun e=>decide (e.born<since))=old
        generalize left.filter (fun e=>decide (e.born≥since))=new
        rw[show(old.map (entry f)).isEmpty=old.isEmpty by simp[Array.isEmpty],show((if old.isEmpty=true then #[none] else #[])++((old++new).map (entry f)).map some:Array (Option MapEntry))=((if old.isEmpty=true then #[none] else #[])++(old++new).map some).map (Option.map (entry f)) by
         split<;>simp[Function.comp_def]]
        generalize (if old.isEmpty=true then #[none] else #[])++(old++new).map some=cand
        rw[Array.size_map]
        refine r_bind (r_choose _) ?_
        rintro n _ rfl
        rw[Array.getElem?_map]
        cases cand[n]? with
        |none=>exact r_stuck
        |some e=>
         cases e with
         |none=>exact over
         |some e=>
          simp only[Option.map_some]
          refine r_bind (r_setObj rfl trivial (fun _ _ _=>by simp) (by simp[obj,entry])) ?_
          rintro _ _ _
          exact r_pure (by simp[ToVal,vals,entry])
     |_=>exact r_stuck
    .rcases hh.lone with⟨_,_,_,_,_,_,rfl⟩|⟨_,rfl⟩<;>exact r_stuck
 |_=>exact r_stuck
theorem r_entry(it:Value):SRel P f K (ToVal f) (Instr.entry it) (Instr.entry (val f it)):=by
 unfold Instr.entry
 cases it with
 |pointer o=>
  cases o with
  |none=>exact r_stuck
  |some a=>
   obtain⟨r,off,spot⟩:=a
   simp only[val_pointer,Option.map_some,addr]
   cases off with
   |succ n=>exact r_stuck
   |zero=>
    refine r_bind (r_getObj r) ?_
    rintro o o' (⟨_,_,rfl⟩|hh)
    .cases o with
     |mapIter m since seen last=>
      cases m with
      |none=>exact r_stuck
      |some m=>
       simp only[obj,Option.map_some]
       cases seen.back? with
       |none=>exact r_stuck
       |some stamp=>
        refine r_mapObj m fun es c=>?_
        refine r_ite (fun _=>Dies.rel (.bind (dies_unsupported _) _)) (fun _=>?_)
        rw[Array.find?_map]
        rw[show((fun e:MapEntry=>e.born==stamp) ∘ entry f)=fun e=>e.born==stamp from rfl]
        cases es.find? fun e=>e.born==stamp with
        |none=>exact r_unsupported
        |some e=>exact r_pure (by simp[ToVal,vals,entry])
     |_=>exact r_stuck
    .rcases hh.lone with⟨_,_,_,_,_,_,rfl⟩|⟨_,rfl⟩<;>exact r_stuck
 |_=>exact r_stuck
def BodyOK(P:Program)(K:Kd)(g:FuncId):Prop:=K.fn g∧Fr.fid g=g∧∃fn,P.funcs[g]?=some fn∧fn.body.isNone=false∧(fn.name == "runtime.NumGoroutine")=false
theorem r_callFunc{g:FuncId}(hb:BodyOK P K g)(args:Array Value):SRel P f K (ToNext f K) (callFunc g args) (callFunc g (vals f args)):=by
 obtain⟨hk,_,fn,h1,h2,h3⟩:=hb
 unfold callFunc
 refine r_program ?_
 rw[h1]
 simp only[h3,h2,Bool.false_eq_true,if_false]
 exact r_pure ⟨rfl,rfl,hk⟩
theorem r_getLoop(l:Nat):SRel P f K (fun a b=>b=loop f a∧K.code a.assign∧K.code a.body∧∀c,a.pending=some c→K.code c) (Instr.getLoop l) (Instr.getLoop (f l)):=by
 unfold Instr.getLoop
 refine r_bind (r_getObj l) ?_
 rintro o o' (⟨h1,hgd,rfl⟩|hh)
 .cases o with
  |loop r=>exact r_pure ⟨rfl,hgd⟩
  |_=>exact r_stuck
 .rcases hh.lone with⟨_,_,_,_,_,_,rfl⟩|⟨_,rfl⟩<;>exact r_stuck
theorem fold_set(f:Nat→Nat):∀(l:List (Nat×Value)) (tmps:Array Value),(l.map fun x=>(x.1,val f x.2)).foldl (fun tmps x=>tmps.setIfInBounds x.1 x.2) (vals f tmps)=vals f (l.foldl (fun tmps x=>tmps.setIfInBounds x.1 x.2) tmps)
 |[],tmps=>rfl
 |x::l,tmps=>by
  simp only[List.map_cons,List.foldl_cons,←vals_set]
  exact fold_set f l _
theorem r_yield(l:Nat)(args:Array Value):SRel P f K (ToNext f K) (Instr.yield l args) (Instr.yield (f l) (vals f args)):=by
 unfold Instr.yield
 refine r_bind (r_getLoop l) ?_
 rintro r _ ⟨rfl,hk⟩
 simp only[vals_size]
 refine r_ite (fun _=>Dies.rel ((dies_stuck _).bind _)) (fun _=>r_pure ⟨?_,rfl,hk.1,hk.2.1⟩)
 simp only[next,loop,Next.round.injEq,true_and,and_true]
 have e1:r.params.zip (vals f args)=(r.params.zip args).map fun x=>(x.1,val f x.2):=by
  refine Array.ext (by simp) fun i h1 h2=>?_
  simp[vals]
 have:=fold_set f (r.params.zip args).toList r.tmps
 rw[←Array.toList_map,←e1,Array.foldl_toList,Array.foldl_toList] at this
 exact this
theorem vals_append'(f:Nat→Nat)(a b:Array Value):vals f (a++b)=vals f a++vals f b:=by simp[vals]
def LenOK(P:Program)(ts:Array TypeId):Prop:=∃t0,ts[0]?=some t0∧(P.underlying t0=some .string∨(∃e,P.underlying t0=some (.slice e)) ∨ ∃n e,P.underlying t0=some (.array n e))
theorem r_len{ts:Array TypeId}(h:LenOK P ts)(t:TypeId)(args:Array Value):SRel P f K (ToVal f) (Builtin.len_ ts t args) (Builtin.len_ ts t (vals f args)):=by
 obtain⟨t0,h0,hd0⟩:=h
 unfold Builtin.len_
 simp only[vals_get?,h0]
 cases h1:args[0]? with
 |none=>exact r_stuck
 |some x=>
  simp only[Option.map_some]
  refine r_bind (r_underlying _) ?_
  rintro _ d ⟨rfl,hd⟩
  rcases hd0 with h|⟨e,h⟩|⟨n,e,h⟩<;>(rw[h] at hd;obtain rfl:=Option.some.inj hd)
  .cases x with
   |string s=>simp only[val_string];exact r_pure (by simp[ToVal,goInt])
   |_=>exact r_stuck
  .cases x with
   |slice a l c=>simp only[val_slice];exact r_pure (by simp[ToVal,goInt])
   |_=>exact r_stuck
  .exact r_pure (by simp[ToVal,goInt])
theorem r_max2(x y:Value):SRel P f K (ToVal f) (Builtin.max2 x y) (Builtin.max2 (val f x) (val f y)):=by
 unfold Builtin.max2
 split
 .simp only[val_int];exact r_pure (by simp[ToVal])
 .simp only[val_float]
  split
  .refine r_bind (r_choose _) ?_
   rintro n _ rfl
   exact r_pure (by simp[ToVal])
  .exact r_pure (by simp[ToVal])
  .exact r_pure (by simp[ToVal])
  .exact r_pure (by simp[ToVal])
 .simp only[val_string]
  refine r_bind (r_stringOp _ _ _) ?_
  rintro v _ rfl
  refine r_bind (r_asBool v) ?_
  rintro _ b rfl
  exact r_pure (by simp[ToVal])
 .exact r_unsupported
 .exact r_unsupported
 .exact r_stuck
theorem r_min2(x y:Value):SRel P f K (ToVal f) (Builtin.min2 x y) (Builtin.min2 (val f x) (val f y)):=by
 unfold Builtin.min2
 split
 .simp only[val_int];exact r_pure (by simp[ToVal])
 .simp only[val_float]
  split
  .refine r_bind (r_choose _) ?_
   rintro n _ rfl
   exact r_pure (by simp[ToVal])
  .exact r_pure (by simp[ToVal])
  .exact r_pure (by simp[ToVal])
  .exact r_pure (by simp[ToVal])
 .simp only[val_string]
  refine r_bind (r_stringOp _ _ _) ?_
  rintro v _ rfl
  refine r_bind (r_asBool v) ?_
  rintro _ b rfl
  exact r_pure (by simp[ToVal])
 .exact r_unsupported
 .exact r_unsupported
 .exact r_stuck
theorem r_foldlM(g:Value→Value→Sem Value)(hg:∀x y,SRel P f K (ToVal f) (g x y) (g (val f x) (val f y))):∀(l:List Value) (x:Value),SRel P f K (ToVal f) (l.foldlM g x) ((l.map (val f)).foldlM g (val f x))
 |[],x=>r_pure rfl
 |y::l,x=>by
  simp only[List.map_cons,List.foldlM_cons]
  refine r_bind (hg x y) ?_
  rintro z _ rfl
  exact r_foldlM g hg l z
theorem r_min(ts:Array TypeId)(t:TypeId)(args:Array Value):SRel P f K (ToVal f) (Builtin.min_ ts t args) (Builtin.min_ ts t (vals f args)):=by
 unfold Builtin.min_
 rw[show(vals f args).toList=args.toList.map (val f) by simp[vals]]
 cases args.toList with
 |nil=>exact r_stuck
 |cons x l=>exact r_foldlM _ r_min2 l x
theorem r_max(ts:Array TypeId)(t:TypeId)(args:Array Value):SRel P f K (ToVal f) (Builtin.max_ ts t args) (Builtin.max_ ts t (vals f args)):=by
 unfold Builtin.max_
 rw[show(vals f args).toList=args.toList.map (val f) by simp[vals]]
 cases args.toList with
 |nil=>exact r_stuck
 |cons x l=>exact r_foldlM _ r_max2 l x
theorem calm_panicnil:Calm P K Instr.panicnil:=by
 unfold Instr.panicnil
 refine Calm.bind (s:=sys .env) (fun v es hv=>?_) fun r=>?_
 .show NV K (v.sys .env).2
  have:(v.sys .env).2.heap=v.heap:=by
   have key:∀{α:Type} (a:Ask α) (w:World),(w.ask a).2.heap=w.heap:=fun a=>by
    induction a with
    |done a=>intro w;rfl
    |ask what range k ih=>
     intro w
     simp only[World.ask]
     split
     .exact ih _ _
     .rw[ih]
   unfold World.sys
   split
   .rfl
   .rename_i r os w h
    have:=key (Kernel.perform .env v.os) v
    rw[h] at this
    exact this
  unfold NV
  rw[this]
  exact hv
 .split
  .exact Calm.bind calm_program fun _=>calm_pure _
  .exact calm_stuck _
theorem dies_panic(x:Value):Dies P K (Instr.panic x):=by
 unfold Instr.panic
 cases x with
 |iface t v=>exact dies_goPanic _
 |nilIface=>
  refine .after calm_panicnil fun n=>?_
  split
  .exact dies_goPanic _
  .exact dies_runtimePanic _
 |_=>exact dies_stuck _
def BuiltinOK(P:Program)(b:Builtin)(ts:Array TypeId):Prop:=
 match b with
 |.len=>LenOK P ts
 |.append=>AppOK P ts
 |.cap=>∀t0,ts[0]?=some t0→∃e,P.underlying t0=some (.slice e)
 |.min|.max|.panic|.copy=>True
 |_=>False
theorem r_builtin(hz:ZeroOK P){b:Builtin}{ts:Array TypeId}(h:BuiltinOK P b ts)(t:TypeId)(cs:Array Bool)(args:Array Value):SRel P f K (ToNext f K) (builtin b ts t cs args) (builtin b ts t cs (vals f args)):=by
 unfold builtin
 cases b<;>first
  |exact h.elim
  |exact r_value (r_len h t args)
  |exact r_value (r_append hz h t args)
  |exact r_value (r_cap ts h t args)
  |exact r_value (r_copy ts t args)
  |exact r_value (r_min ts t args)
  |exact r_value (r_max ts t args)
  |exact Dies.rel (.bind (dies_panic _) _)
def InvOK(P:Program)(K:Kd):Target→Prop
 |.nil=>True
 |.builtin b ts _ _=>BuiltinOK P b ts
 |.fn (.func g) _=>BodyOK P K g
 |.fn (.via _ _ g _) _=>BodyOK P K g
 |.fn (.yield _) _=>True
 |_=>False
theorem r_invoke(hz:ZeroOK P){t:Target}(h:InvOK P K t)(args:Array Value):SRel P f K (ToNext f K) (invoke t args) (invoke (target f t) (vals f args)):=by
 cases t with
 |nil=>exact Dies.rel (s:=invoke .nil args) (dies_runtimePanic .nilDeref)
 |builtin b ts t cs=>exact r_builtin hz h t cs args
 |collected r=>exact h.elim
 |coroexit r=>exact h.elim
 |fn g c=>
  cases g with
  |func g=>simp only[target,fn,invoke,←vals_append',show Fr.fid g=g from h.2.1];exact r_callFunc h _
  |method n=>exact h.elim
  |methodOf t n=>exact h.elim
  |via t path g p=>
   simp only[target,fn,invoke,vals_get?,show Fr.fid g=g from h.2.1]
   cases hx:args[0]? with
   |none=>exact r_stuck
   |some x=>
    simp only[Option.map_some,vals_size]
    refine r_bind (r_receiverVia t x path p) ?_
    rintro v _ rfl
    have:=r_callFunc (P:=P) (f:=f) (K:=K) h (#[v]++args.extract 1 args.size)
    rw[vals_append'] at this
    simpa[vals,Array.map_extract] using this
  |yield l=>simp only[target,fn,invoke];exact r_yield l args
theorem r_enterLoop(g:FuncId)(tmps:Array Value)(params:Array Tmp)(as body:Code)(ha:K.code as)(hb:K.code body)(around:Option Nat):SRel P f K (fun a b=>b=(f a.1,a.2.map (deferred f))∧∀d∈a.2,∃r,d.target=.collected r) (Instr.enterLoop g tmps params as body around) (Instr.enterLoop g (vals f tmps) params as body (around.map f)):=by
 unfold Instr.enterLoop
 cases around with
 |some l=>
  simp only[Option.map_some]
  refine r_bind (r_getLoop l) ?_
  rintro r _ ⟨rfl,hk⟩
  refine r_bind (r_pure (Q:=fun a b=>a=(r.defers,[])∧b=((loop f r).defers,[])) ⟨rfl,rfl⟩) ?_
  rintro _ _ ⟨rfl,rfl⟩
  dsimp only
  refine r_bind (r_newObj rfl ⟨ha,hb,fun c h=>by cases h⟩ rfl) ?_
  rintro n _ rfl
  exact r_pure ⟨rfl,fun d hd=>by cases hd⟩
 |none=>
  simp only[Option.map_none]
  refine r_bind (r_newObj (P:=P) (f:=f) (K:=K) (o:=.deferred (some [])) rfl (fun d hd=>by cases hd) rfl) ?_
  rintro n _ rfl
  refine r_bind (r_pure (Q:=fun a b=>a=(n,[{target:=.collected n,args:=#[]}])∧b=(f n,[{target:=.collected (f n),args:=#[]}])) ⟨rfl,rfl⟩) ?_
  rintro _ _ ⟨rfl,rfl⟩
  dsimp only
  refine r_bind (r_newObj rfl ⟨ha,hb,fun c h=>by cases h⟩ rfl) ?_
  rintro m _ rfl
  exact r_pure ⟨by simp[deferred,target,vals],fun d hd=>⟨n,by obtain rfl:=List.mem_singleton.1 hd;rfl⟩⟩
theorem r_beginRound(l:Nat):SRel P f K (fun _ _:Unit=>True) (Instr.beginRound l) (Instr.beginRound (f l)):=by
 unfold Instr.beginRound
 refine r_bind (r_getLoop l) ?_
 rintro r _ ⟨rfl,hk⟩
 refine r_bind (r_setObj rfl hk (fun _ _ _ h=>by cases h) rfl) ?_
 rintro _ _ _
 rw[show(loop f r).state=r.state from rfl]
 cases r.state<;>first|exact r_pure trivial|exact r_runtimePanic _
theorem r_endRound(l:Nat)(j:Option Code)(hj:∀c,j=some c→K.code c):SRel P f K (ToVal f) (Instr.endRound l j) (Instr.endRound (f l) j):=by
 unfold Instr.endRound
 refine r_bind (r_getLoop l) ?_
 rintro r _ ⟨rfl,hk⟩
 refine r_bind (r_setObj rfl ⟨hk.1,hk.2.1,hj⟩ (fun _ _ _ h=>by cases h) rfl) ?_
 rintro _ _ _
 exact r_pure (by simp[ToVal])
theorem r_endLoop(l:Nat):SRel P f K (fun a b=>b=a∧∀c,a=some c→K.code c) (Instr.endLoop l) (Instr.endLoop (f l)):=by
 unfold Instr.endLoop
 refine r_bind (r_getLoop l) ?_
 rintro r _ ⟨rfl,hk⟩
 show SRel P f K _ (if r.state==.busy then _ else _) (if r.state==.busy then _ else _)
 refine r_ite (fun _=>Dies.rel (.bind (dies_runtimePanic _) _)) (fun _=>?_)
 refine r_bind (r_setObj rfl hk (fun _ _ _ h=>by cases h) rfl) ?_
 rintro _ _ _
 exact r_pure ⟨rfl,hk.2.2⟩
theorem r_takeDeferred(b:Nat):SRel P f K (fun x y=>y=x.map (deferred f)∧∀d∈x,K.tgt d.target) (Instr.takeDeferred b) (Instr.takeDeferred (f b)):=by
 unfold Instr.takeDeferred
 refine r_bind (r_getObj b) ?_
 rintro o o' (⟨h1,hgd,rfl⟩|hh)
 .cases o with
  |deferred ds=>
   cases ds with
   |none=>exact r_stuck
   |some ds=>
    refine r_bind (r_setObj rfl trivial (fun _ _ _ h=>by cases h) rfl) ?_
    rintro _ _ _
    exact r_pure ⟨rfl,hgd⟩
  |_=>exact r_stuck
 .rcases hh.lone with⟨_,_,_,_,_,_,rfl⟩|⟨_,rfl⟩<;>exact r_stuck
theorem r_followBlind:∀(l:List FieldStep) (t:TypeId) (x:Option Value),SRel P f K (fun a b=>match a,b with
  |.error r,.error s=>s=r
  |.ok p,.ok q=>q=(p.1,p.2.map (val f))
  |_,_=>False) (followBlind l t x) (followBlind l t (x.map (val f)))
 |[],t,x=>r_pure rfl
 |s::rest,t,x=>by
  unfold followBlind
  refine r_bind (r_underlying _) ?_
  rintro _ d ⟨rfl,_⟩
  cases d with
  |struct fields=>
   dsimp only
   cases fields[s.index]? with
   |none=>exact r_stuck
   |some g=>
    dsimp only
    cases s.deref with
    |true=>
     cases x with
     |none=>exact r_pure rfl
     |some v=>
      cases v with
      |pointer o=>
       cases o with
       |none=>simp only[Option.map_some,val_pointer,Option.map_none];exact r_pure rfl
       |some a=>
        simp only[Option.map_some,val_pointer]
        exact r_followBlind rest g.type none
      |_=>exact r_stuck
    |false=>
     cases x with
     |none=>exact r_followBlind rest g.type none
     |some v=>
      cases v with
      |agg cs=>
       simp only[Option.map_some,val_agg]
       refine r_bind (r_part _ cs _) ?_
       rintro b _ rfl
       exact r_followBlind rest g.type (some b)
      |_=>exact r_stuck
  |_=>exact r_stuck
theorem r_nilMade{t:TypeId}(ht:P.types.size≤t)(x x':Value)(name:String):∀n:Nat,SRel P f K (fun a b=>b=a) (nilAhead n t x name) (nilAhead n t x' name)
 |0=>r_pure rfl
 |n+1=>by
  unfold nilAhead
  refine .dies (dies_typeInfo fun i hi=>?_)
  rw[meth_info ht hi]
  exact dies_stuck _
theorem r_nilAhead(hz:ZeroOK P)(hm:Mps.maps=true):∀(n:Nat) (t:TypeId) (x:Value) (name:String),SRel P f K (fun a b=>b=a) (nilAhead n t x name) (nilAhead n t (val f x) name)
 |0,_,_,_=>r_pure rfl
 |n+1,t,x,name=>by
  unfold nilAhead
  refine r_bind (r_typeInfo t) ?_
  rintro _ i ⟨rfl,_⟩
  cases i.methods.find? (·.name==name) with
  |none=>exact r_stuck
  |some m=>
   dsimp only
   refine r_bind (r_followBlind m.path.toList t (some x)) ?_
   intro a b hab
   cases a with
   |error r=>
    cases b with
    |error s=>simp only at hab;subst hab;exact r_pure rfl
    |ok q=>simp only at hab
   |ok p=>
    cases b with
    |error s=>simp only at hab
    |ok q=>
     simp only at hab
     subst hab
     obtain⟨u,y⟩:=p
     dsimp only
     cases m.func with
     |none=>
      cases y with
      |none=>exact r_pure rfl
      |some v=>
       cases v with
       |iface t' v'=>
        simp only[Option.map_some,val_iface,ifv_maps hm]
        by_cases ht:t'<tyTop
        .rw[if_pos ht];exact r_nilAhead hz hm n t' v' name
        .rw[if_neg ht];exact r_nilMade (Nat.le_trans hz.types (Nat.le_of_not_lt ht)) _ _ _ n
       |nilIface=>simp only[Option.map_some,val_nilIface];exact r_pure rfl
       |_=>exact r_stuck
     |some fp=>
      obtain⟨g,pr⟩:=fp
      cases pr with
      |true=>exact r_pure rfl
      |false=>
       dsimp only
       refine r_bind (r_underlying _) ?_
       rintro _ d ⟨rfl,_⟩
       cases d<;>first
        |exact r_pure rfl
        |(cases y with
          |none=>exact r_pure rfl
          |some v=>
           cases v with
           |pointer o=>cases o<;>(simp only[Option.map_some,val_pointer,Option.map_none];exact r_pure rfl)
           |_=>simp only[Option.map_some,val_bool,val_int,val_float,val_complex,val_string,val_slice,val_map,val_chan,val_func,val_nilFunc,val_iface,ifv_maps hm,val_nilIface,val_agg,val_tuple];exact r_pure rfl)
def FnFixed(S:FuncId→Prop):Fn→Prop
 |.yield _=>False
 |.func g|.via _ _ g _=>S g
 |_=>False
theorem fn_fixed{S:FuncId→Prop}{g:Fn}(h:FnFixed S g)(hS:∀x,S x→Fr.fid x=x)(f:Nat→Nat):fn f g=g:=by
 cases g with
 |yield l=>exact h.elim
 |func g=>simp only[fn,hS g h]
 |via t p g b=>simp only[fn,hS g h]
 |_=>exact h.elim
def ConvOK(P:Program)(s d:TypeId):Prop:=(∃k,P.underlying s=some (.int k))∧∃k,P.underlying d=some (.int k)
theorem r_convert{s d:TypeId}(h:ConvOK P s d)(x:Value):SRel P f K (ToVal f) (convert s d x) (convert s d (val f x)):=by
 obtain⟨⟨k,h1⟩,k',h2⟩:=h
 unfold convert
 refine r_bind (r_underlying _) ?_
 rintro _ d1 ⟨rfl,e1⟩
 refine r_bind (r_underlying _) ?_
 rintro _ d2 ⟨rfl,e2⟩
 rw[h1] at e1;rw[h2] at e2
 obtain rfl:=Option.some.inj e1
 obtain rfl:=Option.some.inj e2
 cases x with
 |int q n=>simp only[val_int];exact r_pure (by simp[ToVal])
 |float q b=>
  simp only[val_float]
  show SRel P f K (ToVal f) (Conv.floatToInt q b k') (Conv.floatToInt q b k')
  unfold Conv.floatToInt
  have any:SRel P f K (ToVal f) (choose (.floatToInt q b k') >>= fun n=>pure (Value.int k' (k'.wrap n))) (choose (.floatToInt q b k') >>= fun n=>pure (Value.int k' (k'.wrap n))):=by
   refine r_bind (r_choose _) ?_
   rintro n _ rfl
   exact r_pure (by simp[ToVal])
  dsimp only
  split
  .exact r_ite (fun _=>r_pure (by simp[ToVal])) (fun _=>any)
  .exact any
 |pointer o=>cases o<;>exact r_unsupported
 |_=>exact r_unsupported
def calleeOK(P:Program)(c:Call):Prop:=
 match c.callee with
 |.builtin b=>BuiltinOK P b c.argTypes
 |.value _=>True
 |.invoke ..=>False
def OpOK(P:Program)(S:FuncId→Prop):Op→Prop
 |.move _|.assign _|.pick .. | .alloc _|.box .. | .build .. | .load .. | .store .. | .unOp .. | .makeSlice .. | .slice ..
 |.fieldAddr .. | .field .. | .indexAddr .. | .index .. | .extract .. | .panic _|.buildSlice .. | .makeMap .. | .entryStore .. | .range .. | .next .. | .entry _=>True
 |.lookup t _ _ _|.mapUpdate t _ _ _|.insert t _ _ _|.mapEntry t _ _=>MapOK P t
 |.binOp op t _ _ _=>BinOK P op t
 |.convert s d _=>ConvOK P s d
 |.makeInterface t _=>t<tyTop
 |.nilCheck _=>Mps.maps=true
 |.makeFunc g _ _=>FnFixed S g
 |.call c=>calleeOK P c
 |_=>False
theorem r_resolve'(ρ:Operand→Value)(c:Call)(hc:calleeOK P c)(t:TypeId):SRel P f K (fun a b=>b=deferred f a∧resolve ρ c t=pure a) (resolve ρ c t) (resolve (fun x=>val f (ρ x)) c t):=by
 unfold resolve
 have e:c.args.map (fun x=>val f (ρ x))=vals f (c.args.map ρ):=by simp[vals]
 dsimp only
 rw[e]
 cases hcal:c.callee with
 |builtin b=>exact r_pure ⟨by simp[deferred,target],rfl⟩
 |invoke recv name=>unfold calleeOK at hc;rw[hcal] at hc;exact hc.elim
 |value g=>
  dsimp only
  cases ρ g with
  |func g a b=>simp only[val_func,Deferred.ofValue,←vals_append'];exact r_pure ⟨rfl,rfl⟩
  |nilFunc=>simp only[val_nilFunc,Deferred.ofValue];exact r_pure ⟨rfl,rfl⟩
  |_=>exact r_stuck
def TgtOK(P:Program):Target→Prop
 |.builtin b ts _ _=>BuiltinOK P b ts
 |.collected _|.coroexit _=>False
 |_=>True
theorem tgt_of_resolve{ρ:Operand→Value}{c:Call}{t:TypeId}{d:Deferred}(hc:calleeOK P c)(h:resolve ρ c t=pure d):TgtOK P d.target:=by
 unfold resolve at h
 unfold calleeOK at hc
 dsimp only at h
 cases hcal:c.callee with
 |builtin b=>rw[hcal] at h hc;cases h;exact hc
 |invoke r n=>rw[hcal] at hc;exact hc.elim
 |value g=>
  rw[hcal] at h
  dsimp only at h
  cases hg:ρ g with
  |func g a b=>rw[hg] at h;cases h;trivial
  |nilFunc=>rw[hg] at h;cases h;trivial
  |_=>rw[hg] at h;cases h
def ValMet:Value→Prop
 |.func (.method n) _ _|.func (.methodOf _ n) _ _=>Fr.mid n=n
 |_=>True
theorem r_execOp{S:FuncId→Prop}(hf:Inj f)(hx:Fix P f)(hφ:∀x,S x→Fr.fid x=x)(hz:ZeroOK P)(ρ:Operand→Value)(o:Oper)(hv:∀x∈o.op.operands,ValMet (ρ x))(ho:OpOK P S o.op)(hi:∀c d,o.op=.call c→resolve ρ c o.type=pure d→InvOK P K d.target):SRel P f K (ToNext f K) (execOp ρ o) (execOp (fun x=>val f (ρ x)) o):=by
 unfold execOp
 cases hop:o.op<;>rw[hop] at ho<;>first|exact ho.elim|skip
 all_goals dsimp only
 case move x=>exact r_pure ⟨rfl,rfl,trivial⟩
 case assign x=>exact r_pure ⟨rfl,rfl,trivial⟩
 case pick c a b=>
  refine r_bind (r_asBool (ρ c)) ?_
  rintro _ b rfl
  exact r_pure ⟨by simp only[next];split<;>rfl,rfl,trivial⟩
 case alloc t=>exact r_value (r_alloc hz t _)
 case box t x=>exact r_value (r_box t _)
 case build t ps=>exact r_value (r_build hz t _ _ (by simp[Function.comp_def]))
 case load t a=>exact r_value (r_loadAt t _)
 case store t a x=>exact r_skip (r_storeAt t _ _)
 case unOp op t x=>exact r_value (r_unary op _)
 case makeInterface t x=>exact r_value (r_makeInterface ho _)
 case makeSlice t l c=>exact r_value (r_makeSlice hz t _ _)
 case slice t x lo hi mx=>
  refine r_value ?_
  have:=r_sliceAt (P:=P) (f:=f) (K:=K) t (ρ x) (lo.map ρ) (hi.map ρ) (mx.map ρ)
  simpa[Option.map_map,Function.comp_def] using this
 case fieldAddr t x n=>exact r_value (r_fieldAt t _ n)
 case field t x n=>exact r_value (r_field t _ n)
 case indexAddr t x i=>exact r_value (r_indexAt t _ _)
 case index t x i=>exact r_value (r_index t _ _)
 case extract x n=>exact r_value (r_extract _ n)
 case panic x=>exact r_value (dies_panic _).rel
 case buildSlice t len ps=>exact r_value (r_buildSlice hz t len _ _ (by simp[Function.comp_def]))
 case makeMap t r=>
  refine r_value ?_
  have:=r_makeMap (P:=P) (f:=f) (K:=K) t (r.map ρ)
  simpa[Option.map_map,Function.comp_def] using this
 case lookup t x i ok=>exact r_value (r_lookup hz hf hx ho _ _ _)
 case mapUpdate t m k x=>exact r_skip (r_mapUpdate hf hx ho _ _ _)
 case insert t m k x=>exact r_skip (r_mapUpdate hf hx ho _ _ _)
 case mapEntry t m k=>exact r_value (r_mapEntry hz hf hx ho _ _)
 case entryStore t m s x=>exact r_skip (r_entryStore t _ _ _)
 case range t x=>exact r_value (r_range t _)
 case next it b=>exact r_value (r_next _ _ _)
 case entry it=>exact r_value (r_entry _)
 case convert s d x=>exact r_value (r_convert ho _)
 case makeFunc g a b=>
  refine r_value ?_
  have:=r_makeFunc (P:=P) (f:=f) (K:=K) g (a.map ρ) (b.map ρ)
  rw[fn_fixed ho hφ] at this
  simpa[vals,Function.comp_def] using this
 case binOp op t x y yt=>
  refine r_value ?_
  refine r_bind (r_eqGuard op t x y _ _ ho) ?_
  rintro _ _ _
  exact r_binOp hf hx op t _ _ ho
 case call c=>
  refine r_bind (r_resolve' ρ c ho _) ?_
  rintro d _ ⟨rfl,hd⟩
  exact r_invoke hz (hi c d hop hd) _
 case nilCheck x=>
  have hvx:=hv x (by rw[hop];simp[Op.operands])
  cases hρ:ρ x with
  |pointer o=>
   cases o with
   |none=>exact r_runtimePanic _
   |some a=>simp only[val_pointer,Option.map_some];exact r_pure ⟨by simp[next],rfl,trivial⟩
  |nilIface=>exact r_runtimePanic _
  |nilFunc=>exact r_runtimePanic _
  |func g a b=>
   cases g with
   |method name=>
    rw[hρ] at hvx
    simp only[val_func,fn,vals_get?,show Fr.mid name=name from hvx]
    cases h0:a[0]? with
    |none=>simp only[Option.map_none];exact r_pure ⟨by simp[next,fn,show Fr.mid name=name from hvx],rfl,trivial⟩
    |some y=>
     cases y with
     |nilIface=>exact r_runtimePanic _
     |iface t w=>
      simp only[Option.map_some,val_iface,ifv_maps ho]
      refine r_program ?_
      refine r_bind (Q:=fun a b=>b=a) ?_ ?_
      .by_cases ht:t<tyTop
       .rw[if_pos ht];exact r_nilAhead hz ho _ t w name
       .rw[if_neg ht];exact r_nilMade (Nat.le_trans hz.types (Nat.le_of_not_lt ht)) _ _ _ _
      rintro _ r rfl
      refine r_ite (fun _=>Dies.rel (.bind (dies_unsupported _) _)) (fun _=>r_pure ⟨by simp[next,fn,ifv_maps ho,show Fr.mid name=name from hvx],rfl,trivial⟩)
     |_=>simp only[Option.map_some,val_bool,val_int,val_float,val_complex,val_string,val_pointer,val_slice,val_map,val_chan,val_func,val_nilFunc,val_agg,val_tuple];exact r_pure ⟨by simp[next,fn,show Fr.mid name=name from hvx],rfl,trivial⟩
   |_=>simp only[val_func,fn];exact r_pure ⟨by simp[next,fn],rfl,trivial⟩
  |_=>simp only[val_bool,val_int,val_float,val_complex,val_string,val_slice,val_map,val_chan,val_iface,ifv_maps ho,val_agg,val_tuple];exact r_pure ⟨by simp[next,ifv_maps ho],rfl,trivial⟩
end
section
variable[Mps][Fr][Ext]{P:Program}{f:Nat→Nat}{S:FuncId→Prop}
def OpndOK(P:Program)(S:FuncId→Prop):Operand→Prop
 |.const v=>closedB v=true
 |.global g=>g<P.globals.size
 |.func g=>S g
 |_=>True
def OperOK(P:Program)(S:FuncId→Prop)(o:Oper):Prop:=OpOK P S o.op∧∀x∈o.op.operands,OpndOK P S x
def CodeOK(P:Program)(S:FuncId→Prop):Code→Prop
 |.region _ ops _=>∀o∈ops,OperOK P S o
 |.seq a b=>CodeOK P S a∧CodeOK P S b
 |.cond c a b=>OpndOK P S c∧CodeOK P S a∧CodeOK P S b
 |.block _ a|.loop a|.scope a=>CodeOK P S a
 |.rangeFunc g _ a b=>OpndOK P S g∧CodeOK P S a∧CodeOK P S b
 |_=>True
class Spc where
 sp:Oper→Prop
 nm:FuncId→Prop
instance(priority:=low) noSp:Spc:=⟨fun _=>False,fun _=>False⟩
def OperL[Spc](P:Program)(S:FuncId→Prop)(o:Oper):Prop:=OperOK P S o∨Spc.sp o
def CodeL[Spc](P:Program)(S:FuncId→Prop):Code→Prop
 |.region _ ops _=>∀o∈ops,OperL P S o
 |.seq a b=>CodeL P S a∧CodeL P S b
 |.cond c a b=>OpndOK P S c∧CodeL P S a∧CodeL P S b
 |.block _ a|.loop a|.scope a=>CodeL P S a
 |.rangeFunc g _ a b=>OpndOK P S g∧CodeOK P S a∧CodeOK P S b
 |_=>True
theorem CodeOK.loose[Spc]{c:Code}(h:CodeOK P S c):CodeL P S c:=by
 induction c with
 |region id ops d=>exact fun o ho=>.inl (h o ho)
 |seq a b iha ihb=>exact⟨iha h.1,ihb h.2⟩
 |cond c a b iha ihb=>exact⟨h.1,iha h.2.1,ihb h.2.2⟩
 |block id a ih=>exact ih h
 |loop a ih=>exact ih h
 |scope a ih=>exact ih h
 |rangeFunc g ps a b iha ihb=>exact h
 |_=>exact trivial
def item(f:Nat→Nat):Item→Item
 |.inRangeFunc l=>.inRangeFunc (f l)
 |.endRangeFunc l=>.endRangeFunc (f l)
 |.call d w r s=>.call (deferred f d) w r (vals f s)
 |.extern r as=>.extern r (vals f as)
 |x=>x
def pentry(f:Nat→Nat)(e:PanicEntry):PanicEntry:={e with v:=val f e.v}
def mode(f:Nat→Nat):FrameMode→FrameMode
 |.panicking c=>.panicking (c.map (pentry f))
 |x=>x
def frame(f:Nat→Nat)(fr:Frame):Frame:=
 {fn:=fr.fn,tmps:=vals f fr.tmps,todo:=fr.todo.map (item f),defers:=fr.defers.map (deferred f),mode:=mode f fr.mode,kind:=fr.kind,roundOf:=fr.roundOf.map f}
def gor(f:Nat→Nat)(g:Goroutine):Goroutine:=
 {frame:=frame f g.frame,callers:=g.callers.map (frame f),status:=g.status,dying:=g.dying,offers:=g.offers}
def ItemOK[Spc](P:Program)(S:FuncId→Prop):Item→Prop
 |.code c|.inLoop c|.inScope c=>CodeL P S c
 |.inRegion ops _=>∀o∈ops,OperL P S o
 |.call .. | .extern ..=>False
 |_=>True
def FrameOK[Spc](P:Program)(S:FuncId→Prop)(fr:Frame):Prop:=∀i∈fr.todo,ItemOK P S i
def NotSp[Spc](fr:Frame):Prop:=fr.mode=.run→∀ops i rest k o,fr.todo=.inRegion ops (i::rest)::k→ops[i]?=some o→¬Spc.sp o
theorem notSp_no(fr:Frame):@NotSp noSp fr:=fun _ _ _ _ _ _ _ _ h=>h
variable[Spc]
theorem undef_closed(f:Nat→Nat):val f undef=undef:=by simp[undef,vals]
theorem getD_vals(f:Nat→Nat)(tmps:Array Value)(t:Nat):(vals f tmps).getD t undef=val f (tmps.getD t undef):=by
 simp only[Array.getD_eq_getD_getElem?,vals_get?]
 cases tmps[t]? with
 |none=>simp[undef_closed]
 |some v=>rfl
theorem eval_frame(hx:Fix P f)(hφ:∀x,S x→Fr.fid x=x)(fr:Frame){x:Operand}(h:OpndOK P S x):(frame f fr).eval x=val f (fr.eval x):=by
 cases x with
 |tmp t=>exact getD_vals f fr.tmps t
 |const v=>exact(closedB_closed h f).symm
 |global g=>simp[Frame.eval,addr,hx g h]
 |func g=>simp[Frame.eval,fn,vals,hφ g h]
theorem vals_setIf(f:Nat→Nat)(tmps:Array Value)(d:Nat)(v:Value):vals f (tmps.setIfInBounds d v)=(vals f tmps).setIfInBounds d (val f v):=vals_set f tmps d v
theorem finish_frame(fr:Frame)(v:Value)(hok:FrameOK P S fr):(frame f fr).finish (val f v)=frame f (fr.finish v):=by
 unfold Frame.finish
 cases hT:fr.todo with
 |nil=>simp[frame,hT]
 |cons i k=>
  have hi:ItemOK P S i:=hok i (by rw[hT];exact List.mem_cons_self ..)
  cases i with
  |inRegion ops todo=>
   cases todo with
   |nil=>simp[frame,hT,item]
   |cons j rest=>
    simp only[frame,hT,List.map_cons,item]
    cases (ops[j]?).bind (·.dst)<;>simp[vals_setIf]
  |call d w r s=>exact hi.elim
  |extern r as=>exact hi.elim
  |_=>simp[frame,hT,item]
theorem map_ρ{ρ ρ':Operand→Value}{xs:Array Operand}(h:∀x∈xs,ρ' x=ρ x):xs.map ρ'=xs.map ρ:=Array.map_congr_left h
theorem resolve_congr{ρ ρ':Operand→Value}(c:Call)(t:TypeId)(h:∀x∈c.operands,ρ' x=ρ x):resolve ρ' c t=resolve ρ c t:=by
 have ha:c.args.map ρ'=c.args.map ρ:=map_ρ fun x hx=>h x (by unfold Call.operands;exact Array.mem_append.2 (.inr hx))
 unfold resolve
 dsimp only
 rw[ha]
 cases hc:c.callee with
 |builtin b=>rfl
 |invoke r n=>dsimp only;rw[h r (by unfold Call.operands;rw[hc];simp)]
 |value g=>dsimp only;rw[h g (by unfold Call.operands;rw[hc];simp)]
theorem execOp_congr{ρ ρ':Operand→Value}(o:Oper)(ho:OpOK P S o.op)(h:∀x∈o.op.operands,ρ' x=ρ x):execOp ρ' o=execOp ρ o:=by
 unfold execOp
 cases hop:o.op<;>rw[hop] at ho h<;>first|exact ho.elim|skip
 all_goals simp only[Op.operands] at h
 all_goals dsimp only
 case build t ps=>
  have:(ps.map fun x=>(x.1,ρ' x.2))=ps.map fun x=>(x.1,ρ x.2):=Array.map_congr_left fun x hx=>by
   rw[h x.2 (by simp;exact⟨x.1,by simpa using hx⟩)]
  rw[this]
 case slice t x lo hi mx=>
  rw[h x (by simp)]
  have e:∀(o:Option Operand),(∀y,o=some y→ρ' y=ρ y)→o.map ρ'=o.map ρ:=fun o ho=>by cases o<;>simp[ho]
  rw[e lo (fun y hy=>h y (by subst hy;simp)),e hi (fun y hy=>h y (by subst hy;simp)),e mx (fun y hy=>h y (by subst hy;simp))]
 case makeFunc g a b=>rw[map_ρ (fun x hx=>h x (by simp[hx])),map_ρ (fun x hx=>h x (by simp[hx]))]
 case call c=>rw[resolve_congr c _ h]
 case buildSlice t n ps=>
  have:(ps.map fun x=>(x.1,ρ' x.2))=ps.map fun x=>(x.1,ρ x.2):=Array.map_congr_left fun x hx=>by
   rw[h x.2 (by simp;exact⟨x.1,by simpa using hx⟩)]
  rw[this]
 case makeMap t r=>
  have e:r.map ρ'=r.map ρ:=by cases r<;>simp at h⊢;exact h
  rw[e]
 all_goals (try rfl)
 all_goals (simp at h;simp only[h])
end
section
variable[Mps][Fr][Ext][Spc]{P:Program}{f:Nat→Nat}{S:FuncId→Prop}
theorem seen_event(P:Program)(g:FuncId)(f:Nat→Nat)(es:Array Event):seen P g (es.map (event f))=(seen P g es).map (event f):=by
 unfold seen
 dsimp only
 rw[←Array.foldl_toList,←Array.foldl_toList,Array.toList_map]
 generalize (P.funcs[g]?).any (·.norace)=q0
 have key:∀(l:List Event) (q:Bool) (kept:Array Event),
   (l.map (event f)).foldl (fun(x:Bool×Array Event) e=>match e.loc with|.mark (.extern h)=>((P.funcs[h]?).any (·.norace),x.2)|_=>(x.1,if x.1 && !e.sync then x.2 else x.2.push e)) (q,kept.map (event f)) =
   ((l.foldl (fun(x:Bool×Array Event) e=>match e.loc with|.mark (.extern h)=>((P.funcs[h]?).any (·.norace),x.2)|_=>(x.1,if x.1 && !e.sync then x.2 else x.2.push e)) (q,kept)).1,
    (l.foldl (fun(x:Bool×Array Event) e=>match e.loc with|.mark (.extern h)=>((P.funcs[h]?).any (·.norace),x.2)|_=>(x.1,if x.1 && !e.sync then x.2 else x.2.push e)) (q,kept)).2.map (event f)):=by
  intro l
  induction l with
  |nil=>intro q kept;rfl
  |cons e l ih=>
   intro q kept
   simp only[List.map_cons,List.foldl_cons]
   obtain⟨lc,wr,sy⟩:=e
   have fin:∀e:Event,
     (l.map (event f)).foldl (fun(x:Bool×Array Event) e=>match e.loc with|.mark (.extern h)=>((P.funcs[h]?).any (·.norace),x.2)|_=>(x.1,if x.1 && !e.sync then x.2 else x.2.push e)) (q,if q && !e.sync then kept.map (event f) else(kept.map (event f)).push (event f e)) =
     ((l.foldl (fun(x:Bool×Array Event) e=>match e.loc with|.mark (.extern h)=>((P.funcs[h]?).any (·.norace),x.2)|_=>(x.1,if x.1 && !e.sync then x.2 else x.2.push e)) (q,if q && !e.sync then kept else kept.push e)).1,
      (l.foldl (fun(x:Bool×Array Event) e=>match e.loc with|.mark (.extern h)=>((P.funcs[h]?).any (·.norace),x.2)|_=>(x.1,if x.1 && !e.sync then x.2 else x.2.push e)) (q,if q && !e.sync then kept else kept.push e)).2.map (event f)):=fun e=>by
    cases hb:(q && !e.sync) with
    |true=>exact ih q kept
    |false=>
     have:=ih q (kept.push e)
     rw[Array.map_push] at this
     exact this
   cases lc with
   |mark m=>
    cases m with
    |extern h=>exact ih _ _
    |acquire a=>exact fin ⟨.mark (.acquire a),wr,sy⟩
    |release a=>exact fin ⟨.mark (.release a),wr,sy⟩
    |releaseMerge a=>exact fin ⟨.mark (.releaseMerge a),wr,sy⟩
    |disable=>exact fin ⟨.mark .disable,wr,sy⟩
    |enable=>exact fin ⟨.mark .enable,wr,sy⟩
    |read a=>exact fin ⟨.mark (.read a),wr,sy⟩
    |write a=>exact fin ⟨.mark (.write a),wr,sy⟩
    |noRoom=>exact fin ⟨.mark .noRoom,wr,sy⟩
   |cell a=>exact fin ⟨.cell a,wr,sy⟩
   |obj r=>exact fin ⟨.obj r,wr,sy⟩
   |output=>exact fin ⟨.output,wr,sy⟩
   |goroutines=>exact fin ⟨.goroutines,wr,sy⟩
 have:=key es.toList q0 #[]
 simp only[Array.map_empty] at this
 exact congrArg Prod.snd this
theorem exitTo_item(f:Nat→Nat)(id:Nat):∀(k:List Item),exitTo id (k.map (item f))=(exitTo id k).map (·.map (item f))
 |[]=>rfl
 |i::k=>by
  cases i with
  |inBlock id'=>
   simp only[List.map_cons,item,exitTo]
   split
   .rfl
   .exact exitTo_item f id k
  |_=>simp only[List.map_cons,item,exitTo];exact exitTo_item f id k
theorem gotoIn_item(f:Nat→Nat)(l:Nat):∀(k:List Item),gotoIn l (k.map (item f))=(gotoIn l k).map (·.map (item f))
 |[]=>rfl
 |i::k=>by
  cases i with
  |inScope body=>
   simp only[List.map_cons,item,gotoIn]
   cases findLabel body l with
   |none=>exact gotoIn_item f l k
   |some rest=>rfl
  |_=>simp only[List.map_cons,item,gotoIn];exact gotoIn_item f l k
theorem yielded_vals(f:Nat→Nat)(ops:Array Oper)(tmps:Array Value):yielded ops (vals f tmps)=yielded ops tmps:=by
 funext j
 unfold yielded
 cases (ops[j]?).bind (·.dst) with
 |none=>rfl
 |some d=>
  simp only[Option.bind_some,vals_get?]
  cases tmps[d]? with
  |none=>rfl
  |some v=>
   cases v with
   |iface t x=>
    have e:∀y:Value,wildB y=true→(match(some y:Option Value) with|some (.bool b)=>some b|_=>none)=(none:Option Bool):=fun y hy=>by cases y<;>first|(cases hy;done)|rfl
    simp only[Option.map_some,val_iface]
    exact(e _ (ifv_wild t x _)).trans rfl
   |_=>simp
theorem exitTo_ok{id:Nat}:∀{k k':List Item},(∀i∈k,ItemOK P S i)→exitTo id k=some k'→∀i∈k',ItemOK P S i
 |[],_,_,h=>by cases h
 |i::k,k',hk,h=>by
  cases i with
  |inBlock id'=>
   simp only[exitTo] at h
   split at h
   .obtain rfl:=Option.some.inj h;exact fun i hi=>hk i (List.mem_cons_of_mem _ hi)
   .exact exitTo_ok (fun i hi=>hk i (List.mem_cons_of_mem _ hi)) h
  |_=>exact exitTo_ok (fun i hi=>hk i (List.mem_cons_of_mem _ hi)) h
theorem findLabel_ok{l:Nat}:∀{c c':Code},CodeL P S c→findLabel c l=some c'→CodeL P S c':=by
 intro c
 induction c with
 |seq a b iha ihb=>
  intro c' hc h
  simp only[findLabel] at h
  split at h
  .rename_i rest hr
   obtain rfl:=Option.some.inj h
   exact⟨iha hc.1 hr,hc.2⟩
  .exact ihb hc.2 h
 |label l'=>
  intro c' hc h
  simp only[findLabel] at h
  split at h
  .obtain rfl:=Option.some.inj h;trivial
  .cases h
 |_=>intro c' hc h;cases h
theorem gotoIn_ok{l:Nat}:∀{k k':List Item},(∀i∈k,ItemOK P S i)→gotoIn l k=some k'→∀i∈k',ItemOK P S i
 |[],_,_,h=>by cases h
 |i::k,k',hk,h=>by
  have hk':∀i∈k,ItemOK P S i:=fun i hi=>hk i (List.mem_cons_of_mem _ hi)
  cases i with
  |inScope body=>
   have hb:CodeL P S body:=hk _ (List.mem_cons_self ..)
   simp only[gotoIn] at h
   split at h
   .rename_i rest hr
    obtain rfl:=Option.some.inj h
    intro i hi
    rcases List.mem_cons.1 hi with rfl|hi
    .exact findLabel_ok hb hr
    .rcases List.mem_cons.1 hi with rfl|hi
     .exact hb
     .exact hk' i hi
   .exact gotoIn_ok hk' h
  |_=>exact gotoIn_ok hk' h
end
end Go.Ren
