import Derived.IntWalk
import Derived.Test.YtjilljfmaknihaaGreatA04
set_option linter.all false
set_option maxHeartbeats 4000000
namespace Go.Ev
section
variable{P:aH}{ρ:jV}{ρE:fH->aB ae}{ρr:fH->ae}
theorem Ha{α:Type}(z:List α):∀n,(gp z n).length=n*z.length
|0=>by simp[gp]
|n+1=>by simp[gp,Ha z n,IK,Nat.add_comm]
theorem He{α:Type}(z:List α)(b:0<z.length):∀(n j:Nat),j<n*z.length->(gp z n)[j]?=z[j % z.length]?
|0,j,h=>by omega
|n+1,j,h=>by
 rw[gp];by_cases hj:j<z.length
 .rw[EU hj,Nat.mod_eq_of_lt hj]
 have a:z.length<=j:=by omega
 rw[Zh a,He z b n (j-z.length) (by rw[IK] at h;omega),Nat.mod_eq_sub_mod a]
theorem CQ(z:Array ae)(n)(a:0<z.size):(Array.range (n*z.size)).map (fun i=>z[i % z.size]!)=⟨gp z.toList n⟩:=by
 apply tV;apply List.ext_getElem?;intro j;by_cases hj:j<n*z.size
 .have h1:j % z.size<z.size:=U1 _ a;have h2:=He z.toList (by simpa using a) n j (by simpa using hj);rw[h2];simp[hj,h1]
 have h3:(gp z.toList n).length=n*z.size:=by rw[Ha];simp
 rw[Zg (by simp;omega),Zg (by simp;omega)]
theorem mD{z:ae}(a:flat z=true):∀n,iL ρ (gp z.cells.toList n) (gp z.cells.toList n)
|0=>.nil
|n+1=>(dX a).cells.append (mD a n)
theorem run_buildSlice{t el len ps j z r}(w)(ht:P.underlying t=some (.slice el))(hj:P.info? el=some j)(k:(zeroValue el).run P w=.ok z w)(b:z.cells.size=j.size)(g:j.size≠0)(h1:len*j.size<=2 ^ 24)(hf:Instr.fill (fun i=>some (i*j.size,j.size)) ⟨gp z.cells.toList len⟩ ps.toList=some r):(Instr.buildSlice t len ps).run P w=.ok (.slice (some ⟨w.heap.size,0,none⟩) len len) (w.alloc (.cells r el)):=by
 have l:¬len*j.size>2 ^ 24:=by omega
 have a:=CQ z.cells len (by omega);rw[b] at a;by_cases h0:len=0
 .subst h0;have f:Instr.fill (fun i=>some _) #[] ps.toList=some r:=hf;simp[Instr.buildSlice,iQ ht,Go.sizeOf,typeInfo,hj,newRow,show Array.range 0=#[] from rfl,f]
 have hne:¬_:=fun e=>(Nat.mul_eq_zero.1 e).elim h0 g;have c:¬(len=0\/j.size=0):=fun e=>e.elim h0 g;have d:¬16777216<len*j.size:=by omega
 simp[Instr.buildSlice,iQ ht,Go.sizeOf,typeInfo,hj,newRow,c,d,k,b];simp[a,hf];exact fun h=>absurd h hne
theorem LD(m:Env ρ ρE ρr){h h' w}(hr:HR ρ h w){t len ps v}(e:iP P ρE (.buildSlice t len ps) h=.one (v,h'))(hu:∀b,h.next<=b->b<h'.next->ρ b=.dC):Does P ρ h w (do pure (.value (<- Instr.buildSlice t len (ps.map fun(i,x)=>(i,ρr x))))) v h':=by
 simp only[iP] at e;split at e
 .rename_i vs el g ht
  split at e
  .rename_i j z hj l
   split at e
   .rename_i h1 h2 a
    split at e
    .rename_i cs hf;obtain⟨b,n,rfl⟩:=qw e;have h1:=iF h1;have h2:=bG h2;have a:j.size≠0:=fun o=>by rw[o] at a;cases a
     have⟨d,f⟩:=nH l w;have c:z.cells.size=j.size:=by rw[<-h2];simp
     have⟨r',f1,f2⟩:=Ir (fun i=>some _) (m.opts g) (mD f len) hf;have⟨ρ',s1,s2,_,s4⟩:=Aw hr f2 n hu;have k:(ps.map fun(i,x)=>(i,ρr x)).toList=(ps.toList.map (·.1)).zip (((ps.toList.map (·.2))).map ρr):=by rw[map_snd,Lh];rfl
     have hrun:=run_buildSlice w ht hj d c a h1 (by rw[k];exact f1);have p:len<=len*j.size:=Nat.le_mul_of_pos_right _ (by omega);exact⟨_,.slice _ len len,_,ρ',by simp[hrun],.inl rfl,s1,s2,.slice s4 (.inl ⟨by unfold soft;omega,rfl⟩)⟩
    cases e
   cases e
  cases e
 cases e
theorem run_makeSlice{t el}{l c:Nat}{k k' j z}(w)(ht:P.underlying t=some (.slice el))(hj:P.info? el=some j)(g:(zeroValue el).run P w=.ok z w)(b:z.cells.size=j.size)(f:j.size≠0)(hl:l<=c)(hc:c<1000000)(hb:j.bytes<1000000):(Instr.makeSlice t (.int k (l)) (.int k' (c))).run P w=.ok (.slice (some ⟨w.heap.size,0,none⟩) l c) (w.alloc (.cells ⟨gp z.cells.toList c⟩ el)):=by
 have a:=CQ z.cells c (by omega);rw[b] at a;have w1:IntKind.i64.wrap (l:Int)=(l:Int):=IntWalk.i64_in _ (by omega);have w2:IntKind.i64.wrap (c:Int)=(c:Int):=IntWalk.i64_in _ (by omega);have h:(j.bytes:Int)*(c)<=1000000000000:=by have h1:j.bytes*c<=1000000*1000000:=aay (by omega) (by omega);have h2:=Int.ofNat_le.2 h1;rwa[Int.natCast_mul] at h2
 have g1:¬(((c)<0\/281474976710656<(j.bytes:Int)*(c))\/(l)<0\/(c)<(l)):=by omega
 have i:¬((((c)<0\/281474976710656<(j.bytes:Int)*(c))\/(l)<0)\/(c)<(l)):=by omega
 simp[Instr.makeSlice,iQ ht,Go.sizeOf,typeInfo,hj,asInt,asIntOf,w1,w2,newRow,i];by_cases h0:c=0
 .subst h0
  obtain rfl:l=0:=by omega
  simp[show Array.range 0=#[] from rfl,gp]
 have hne:¬_:=fun e=>(Nat.mul_eq_zero.1 e).elim h0 f;have d:¬(c=0\/j.size=0):=fun e=>e.elim h0 f;have g3:¬((((c:Int)<0\/281474976710656<(j.bytes:Int)*(c))\/(l:Int)<0)\/c<l):=by omega
 rw[aU g3,aU hne];simp[g,b,a]
theorem OD(n:Env ρ ρE ρr){h h' w}(hr:HR ρ h w){t l c v}(e:iP P ρE (.makeSlice t l c) h=.one (v,h'))(hu:∀b,h.next<=b->b<h'.next->ρ b=.dC):Does P ρ h w (do pure (.value (<- Instr.makeSlice t (ρr l) (ρr c)))) v h':=by
 simp only[iP] at e;split at e
 .rename_i el A li q ci ht hl hc
  split at e
  .rename_i l' c' j z i m hj r
   split at e
   .rename_i h1 h2 a o;obtain⟨b,x,rfl⟩:=qw e;obtain⟨rfl,q1⟩:=CO i;obtain⟨rfl,p⟩:=CO m;have h1:=iF h1;have h2:=bG h2;have a:j.size≠0:=fun y=>by rw[y] at a;cases a
    rw[ik] at o;have⟨f,g⟩:=nH r w;have d:z.cells.size=j.size:=by rw[<-h2];simp
    have⟨ρ',s1,s2,_,s4⟩:=Aw hr (mD g c') x hu;have hrun:=run_makeSlice (k:=A) (k':=q) w ht hj f d a h1 p o;have u:=(jC n hl).Eh;have s:=(jC n hc).Eh;exact⟨_,.slice _ l' c',_,ρ',by rw[u,s];simp[hrun],.inl rfl,s1,s2,.slice s4 (.inl ⟨by unfold soft;omega,rfl⟩)⟩
   cases e
  cases e
 cases e
theorem adu{h w}(hr:HR ρ h w){b b' es c}(hb:h.get b=some (.map es c))(a:BR ρ b b'):∃k,ρ b=.at_ b' k/\w.heap[b']?=some (.map ⟨es⟩ c)/\Iq es=true:=by have⟨x,k,o',h1,h2,e,d⟩:=hr.ob b _ hb;obtain rfl:=a.at_ h1;exact⟨k,h1,by rw[h2,e],d⟩
theorem Wp(n:Env ρ ρE ρr){h h' w}(hr:HR ρ h w){t x i ok v}(e:iP P ρE (.lookup t x i ok) h=.one (v,h')):Does P ρ h w (do pure (.value (<- Instr.lookup t (ρr x) (ρr i) ok))) v h':=by
 simp[iP] at e;split at e
 .rename_i kt et r iv ht hx hi
  split at e
  .rename_i es c hb hf;have⟨r',d,s⟩:=(jC n hx).TZ;have g:=(jC n hi).flat hf;have⟨k,m1,p,m3⟩:=adu hr hb s;have u:(getObj r').run P w=.ok (.map ⟨es⟩ c) w:=by simp[getObj,Sem.run,p]
   split at e
   .rename_i o x0 i0 v1 hk a
    split at e;case h_2=>cases e
    rename_i f;cases e;have l:=iI hk w;have j:=iI a w;refine⟨_,(match ok with|true=>.tuple #[v1,.bool true]|false=>v1),w,ρ,?_,.inl rfl,.refl ρ h w w rfl,hr,?_⟩
    .simp[Instr.lookup,iQ ht,d,g,u,l,j];cases ok<;>rfl
    cases ok
    .exact dX f
    exact .tuple (.cons (dX f) (.cons (.same rfl) .nil))
   .rename_i o z hk a q;cases e;have l:=iI hk w;have j:=iI a w;have⟨m,b⟩:=nH q w;refine⟨_,(match ok with|true=>.tuple #[z,.bool false]|false=>z),w,ρ,?_,.inl rfl,.refl ρ h w w rfl,hr,?_⟩
    .simp[Instr.lookup,iQ ht,d,g,u,l,j,m];cases ok<;>rfl
    cases ok
    .exact dX b
    exact .tuple (.cons (dX b) (.cons (.same rfl) .nil))
   cases e
  cases e
 cases e
theorem aeb{es}(h:Iq es=true){i:Nat}{e}(hi:es[i]?=some e):flat e.key=true/\flat e.val=true:=by
 have:=bZ.1 h e (uy hi)
 split at this
 .exact⟨‹_›,this⟩
 cases this
theorem adC{a b k}(h:look P (Instr.keyThatStays a b)=some k):k=b:=by
 unfold Instr.keyThatStays at h;split at h
 .simpa[look,pure] using h.symm
 simp[look,choose,bind,Sem.bind] at h
theorem KH(H:Env ρ ρE ρr){h h' w}(hr:HR ρ h w){t m k x v}(e:iP P ρE (.mapUpdate t m k x) h=.one (v,h')):Does P ρ h w (do Instr.mapUpdate t (ρr m) (ρr k) (ρr x);pure .skip) v h':=by
 simp[iP] at e;split at e
 .rename_i kt et r K b ht hm hk hx
  split at e
  .rename_i es c hb f d a;have⟨r',u,N⟩:=(jC H hm).TZ;have B:=(jC H hk).flat f;have p:=(jC H hx).flat d;have⟨kk,J,F,I⟩:=adu hr hb N;rw[ik] at a;have R:(getObj r').run P w=.ok (.map ⟨es⟩ c) w:=by simp[getObj,Sem.run,F]
   have q:∀o,(setObj r' o).run P w=.ok () {w with heap:=w.heap.setIfInBounds r' o}:=fun o=>by simp[setObj,Sem.run,F]
   have z:=(aP.1 F).1;split at e
   .rename_i L i1 v1 l g;have E:=iI l w;have D:=iI g w
    split at e
    .rename_i n A;cases e;have G:=adC A;have M:=iI A w;have⟨s1,s2⟩:=CZ (o:=.map (es.modify i1 fun e=>{e with key:=n,val:=b}) c) hb J a (w':={w with heap:=w.heap.setIfInBounds r' (.map ⟨es.modify i1 fun e=>{e with key:=n,val:=b}⟩ c)})
      (by simp) (by simp[z]) (fun y hy=>by simp[Su,uJ hy]) hr ⟨rfl,by
       refine bZ.2 fun e he=>?_;have⟨j,hj⟩:=U0 he;rw[List.getElem?_modify] at hj;cases i:es[j]? with
       |none=>rw[i] at hj;simp at hj
       |some e0=>
       rw[i] at hj;have⟨Q,O⟩:=aeb I i;by_cases C:i1=j
       .simp[C] at hj;subst hj;simp[G,f,d]
       simp[C] at hj;subst hj;simp[Q,O]⟩
     refine⟨.skip,undef,{w with heap:=w.heap.setIfInBounds r' (.map ⟨es.modify i1 fun e=>{e with key:=n,val:=b}⟩ c)},ρ,?_,.inr ⟨rfl,rfl⟩,s1,s2,lM⟩;rw[u,B,p];have s:(⟨es⟩:Array MapEntry).modify i1 (fun e=>{e with key:=n,val:=b})=⟨es.modify i1 fun e=>{e with key:=n,val:=b}⟩:=by apply tV;simp
     simp[Instr.mapUpdate,iQ ht,R,E,D,M,q,s]
    cases e
   .rename_i L l g;cases e;have E:=iI l w;have D:=iI g w;have⟨s1,s2⟩:=CZ (o:=.map (es++[{key:=K,val:=b,born:=c}]) (c+1)) hb J a (w':={w with heap:=w.heap.setIfInBounds r' (.map ⟨es++[{key:=K,val:=b,born:=c}]⟩ (c+1))})
     (by simp) (by simp[z]) (fun y hy=>by simp[Su,uJ hy]) hr ⟨rfl,by unfold Iq;rw[Gx];simp[f,d];exact fun e he=>by have:=bZ.1 I e he;simpa using this⟩
    refine⟨.skip,undef,_,ρ,?_,.inr ⟨rfl,rfl⟩,s1,s2,lM⟩;rw[u,B,p];simp[Instr.mapUpdate,iQ ht,R,E,D,q]
   cases e
  cases e
 cases e
theorem Wv(n:Nat):goInt n=.int .i64 n:=rfl
def copyN(h:H)(i:TypeInfo)(db xb:aB Addr)(n:Nat):aB (ae×H):=
 match(match xb with|none=>(match n with|0=>some []|_+1=>none)|some b=>loads h b (n*i.size)) with
 |some cs=>match db with
  |none=>some (.int .i64 n,h)
  |some a=>match stores h a cs with
   |some h'=>some (.int .i64 n,h')
   |none=>none
 |none=>none
theorem agY{h h' w}(hr:HR ρ h w){t ty d y x x' v ts}(g:ts[0]?=some t)(hd:VR ρ d y)(hx:VR ρ x x')(e:copyV P h t d x=some (v,h')):∃v' w',(Builtin.copy_ ts ty #[y,x']).run P w=.ok v' w'/\Stp ρ h w ρ h' w'/\HR ρ h' w'/\VR ρ v v':=by
 unfold copyV at e;split at e
 .rename_i el u k dc s c z ht
  split at e
  .rename_i i hi;obtain⟨E,D,rfl,_⟩:=hd.vF;obtain⟨l,f,rfl,_⟩:=hx.vF;obtain⟨n,j,e⟩:∃n,Nat.min c k=n/\copyN h i u s n=some (v,h'):=by
    cases hb:Nat.ble c k
    .have:¬c<=k:=fun F=>by rw[ae3 F] at hb;cases hb
     refine⟨k,by simp only[Nat.min_def];rw[aU this],?_⟩;rw[hb] at e;exact e
    have:=iF hb;refine⟨c,by simp only[Nat.min_def];rw[aY this],?_⟩;rw[hb] at e;exact e
   unfold copyN at e;split at e
   .rename_i cs hcs;have b:∃cs',(Builtin.firstCells i.size n (.slice l c f)).run P w=.ok ⟨cs'⟩ w/\iL ρ cs cs':=by
     cases s with
     |none=>
      obtain q:=hx.nP;cases q;cases n with
      |zero=>cases hcs;exact⟨[],run_firstCells_none w i.size 0 c z,.nil⟩
      |succ n=>cases hcs
     |some xa=>have⟨m,r,p,o,_⟩:=hx.kE;cases p;have⟨cs',C,B,A⟩:=Dl hr o hcs;exact⟨cs',aaz w i.size n m c f cs' B A,C⟩
    have⟨cs',f1,f2⟩:=b;cases u with
    |none=>
    cases e;obtain q:=hd.nP;cases q;exact⟨.int .i64 n,w,by simp[Builtin.copy_,g,iQ ht,Go.sizeOf,typeInfo,hi,Builtin.lenOf,j,f1,Wv],.refl ρ h w w rfl,hr,.same rfl⟩
    |some a=>
    have⟨a',r,p,ha,_⟩:=hd.kE;cases p;simp only at e;split at e
    .rename_i h1 hst;cases e;have⟨w',t1,t2,t3⟩:=I7 (P:=P) hr ha f2 hst;exact⟨.int .i64 n,w',by simp[Builtin.copy_,g,iQ ht,Go.sizeOf,typeInfo,hi,Builtin.lenOf,j,f1,t1,Wv],t2,t3,.same rfl⟩
    cases e
   cases e
  cases e
 cases e
theorem jJ{r:R (ae×H)}{x:ae×H}(h:(match r with|.one x=>some x|_=>none)=some x):r=.one x:=by cases r<;>cases h;rfl
theorem Uw{ts t ty args}(h0:ts[0]?=some t)(h1:ts[1]?=some t):Builtin.append_ ts ty args=Builtin.append_ #[t,t] ty args:=by unfold Builtin.append_;rw[h0,h1];rfl
theorem Vj{xs:Array fH}{a b}(h:iL ρ [a,b] (xs.toList.map ρr)):∃a' b',xs.map ρr=#[a',b']/\VR ρ a a'/\VR ρ b b':=by
 generalize hl:xs.toList.map ρr=l at h;cases h with
 |cons h1 h2=>
  cases h2 with
  |cons d c=>
  cases c;exact⟨_,_,by apply tV;simpa using hl,h1,d⟩
theorem agz{o}(a:Env ρ ρE ρr){h h' w}(hr:HR ρ h w){v}(e:zY P ρE o.op h=some (v,h'))(hu:∀b,h.next<=b->b<h'.next->ρ b=.dC):Does P ρ h w (execOp ρr o) v h':=by
 unfold execOp;cases u:o.op<;>rw[u] at e<;>simp[zY] at e<;>try (first|(cases e;done)|(simp[iP] at e;cases e;done))
 case alloc t=>exact heap_alloc hr (jJ e) hu
 case box t x=>exact adX a hr (jJ e) hu
 case load t x=>exact abM a hr (jJ e)
 case store t x y=>exact Yp a hr (jJ e)
 case makeMap t r=>
  cases r with
  |none=>exact Ua hr (jJ e) hu
  |some r=>simp only[iP] at e;cases e
 case buildSlice t len ps=>exact LD a hr (jJ e) hu
 case makeSlice t l c=>exact OD a hr (jJ e) hu
 case lookup t x i ok=>exact Wp a hr (jJ e)
 case mapUpdate t m k x=>exact KH a hr (jJ e)
 case insert t m k x=>exact KH a hr (by have:=jJ e;simp[iP] at this⊢;exact this)
 case call c=>
  have e:=jJ e;simp[iP] at e;split at e
  .rename_i s x hc hs
   split at e
   .rename_i t t1 h0 h1
    split at e
    .rename_i r q z;cases e;obtain rfl:=bG q;have⟨s',x',ha,h2,A⟩:=Vj (a.opts hs);have⟨v',w',ρ',p,n,j,g⟩:=Y1 (ty:=o.type) hr h2 A z hu;refine⟨.value v',v',w',ρ',?_,.inl rfl,n,j,g⟩;rw[pO hc,ha];simp[builtin,Uw h0 h1,p]
    cases e
   cases e
  .rename_i d x hc hs
   split at e
   .rename_i t h0;have⟨d',x',ha,h2,A⟩:=Vj (a.opts hs);cases f:copyV P h t d x with
    |none=>rw[f] at e;simp[R.ofOption] at e
    |some r=>rw[f] at e;cases e;have⟨v',w',p,n,j,g⟩:=agY (ty:=o.type) hr h0 h2 A f;refine⟨.value v',v',w',ρ,?_,.inl rfl,n,j,g⟩;rw[pO hc,ha];simp[builtin,p]
   cases e
  .cases e
  cases e
end
end Go.Ev
