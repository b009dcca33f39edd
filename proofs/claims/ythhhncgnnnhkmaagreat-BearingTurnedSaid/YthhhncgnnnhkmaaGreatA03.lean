import Derived.Laws.AppendOwn
import Derived.Test.YthhhncgnnnhkmaaGreatA02
set_option linter.all false
namespace Go.Ev
inductive Nm where
 |unborn
 |at_ (b k:Nat)
 |dead
abbrev Nms:=Nat→Nm
def BR(ρ:Nms)(b b':Nat):Prop:=
 match ρ b with
 |.unborn=>False
 |.at_ x _=>b'=x
 |.dead=>True
structure AR(ρ:Nms)(a a':Addr):Prop where
 block:BR ρ a.block a'.block
 off:a'.off=a.off
 spot:a.spot=none
 spot':a'.spot=none
def CR(ρ:Nms)(a:Addr)(n c c':Nat):Prop:=
 (c<soft∧c'=c)∨(soft≤c∧n≤c'∧∀x k,ρ a.block=.at_ x k→c'=k)
mutual
inductive VR (ρ:Nms):Value→Value→Prop
 |same {v:Value} (h:atom v=true):VR ρ v v
 |ptr {a a':Addr} (h:AR ρ a a'):VR ρ (.pointer (some a)) (.pointer (some a'))
 |slice {a a':Addr} {n c c':Nat} (h:AR ρ a a') (hc:CR ρ a n c c'):VR ρ (.slice (some a) n c) (.slice (some a') n c')
 |map {r r':Nat} (h:BR ρ r r'):VR ρ (.map (some r)) (.map (some r'))
 |func {f:FuncId} {a b a' b':List Value} (ha:VRs ρ a a') (hb:VRs ρ b b'):VR ρ (.func (.func f) ⟨a⟩ ⟨b⟩) (.func (.func f) ⟨a'⟩ ⟨b'⟩)
 |yield {l l':Nat} (h:BR ρ l l'):VR ρ (.func (.yield l) #[] #[]) (.func (.yield l') #[] #[])
 |chan {r r':Nat} (h:BR ρ r r'):VR ρ (.chan (some r)) (.chan (some r'))
 |agg {cs cs':List Value} (h:VRs ρ cs cs'):VR ρ (.agg ⟨cs⟩) (.agg ⟨cs'⟩)
 |tuple {cs cs':List Value} (h:VRs ρ cs cs'):VR ρ (.tuple ⟨cs⟩) (.tuple ⟨cs'⟩)
inductive VRs (ρ:Nms):List Value→List Value→Prop
 |nil:VRs ρ [] []
 |cons {v v':Value} {l l':List Value} (h:VR ρ v v') (hs:VRs ρ l l'):VRs ρ (v::l) (v'::l')
end
def Le(ρ ρ':Nms):Prop:=∀b,ρ b=.unborn∨ρ' b=ρ b∨ρ' b=.dead
theorem Le.refl(ρ:Nms):Le ρ ρ:=fun _=>.inr (.inl rfl)
theorem Le.trans{ρ ρ' ρ'':Nms}(h:Le ρ ρ')(h':Le ρ' ρ''):Le ρ ρ'':=fun b=>by
 rcases h b with h1|h1|h1
 .exact .inl h1
 .rcases h' b with h2|h2|h2
  .exact .inl (h1▸h2)
  .exact .inr (.inl (h2.trans h1))
  .exact .inr (.inr h2)
 .rcases h' b with h2|h2|h2
  .rw[h1] at h2;cases h2
  .exact .inr (.inr (h2.trans h1))
  .exact .inr (.inr h2)
theorem BR.mono{ρ ρ':Nms}(h:Le ρ ρ'){b b':Nat}(hb:BR ρ b b'):BR ρ' b b':=by
 unfold BR at *
 rcases h b with h1|h1|h1
 .rw[h1] at hb;exact hb.elim
 .rw[h1];exact hb
 .rw[h1];trivial
theorem AR.mono{ρ ρ':Nms}(h:Le ρ ρ'){a a':Addr}(ha:AR ρ a a'):AR ρ' a a':=⟨ha.block.mono h,ha.off,ha.spot,ha.spot'⟩
theorem CR.mono{ρ ρ':Nms}(h:Le ρ ρ'){a:Addr}{n c c':Nat}(hu:ρ a.block≠.unborn)(hc:CR ρ a n c c'):CR ρ' a n c c':=by
 rcases hc with hc|⟨h1,h2,h3⟩
 .exact .inl hc
 .refine .inr ⟨h1,h2,fun x k hx=>?_⟩
  rcases h a.block with e|e|e
  .exact absurd e hu
  .exact h3 x k (e▸hx)
  .rw[e] at hx;cases hx
theorem BR.born{ρ:Nms}{b b':Nat}(h:BR ρ b b'):ρ b≠.unborn:=fun e=>by unfold BR at h;rw[e] at h;exact h
theorem BR.at_{ρ:Nms}{b b' x k:Nat}(h:BR ρ b b')(e:ρ b=.at_ x k):b'=x:=by unfold BR at h;rw[e] at h;exact h
mutual
theorem VR.mono{ρ ρ':Nms}(h:Le ρ ρ'):∀{v v':Value},VR ρ v v'→VR ρ' v v'
 |_,_,.same ha=>.same ha
 |_,_,.ptr ha=>.ptr (ha.mono h)
 |_,_,.slice ha hc=>.slice (ha.mono h) (hc.mono h ha.block.born)
 |_,_,.map hb=>.map (hb.mono h)
 |_,_,.func ha hb=>.func (ha.mono h) (hb.mono h)
 |_,_,.yield hb=>.yield (hb.mono h)
 |_,_,.chan hb=>.chan (hb.mono h)
 |_,_,.agg hs=>.agg (hs.mono h)
 |_,_,.tuple hs=>.tuple (hs.mono h)
theorem VRs.mono{ρ ρ':Nms}(h:Le ρ ρ'):∀{v v':List Value},VRs ρ v v'→VRs ρ' v v'
 |_,_,.nil=>.nil
 |_,_,.cons hv hs=>.cons (hv.mono h) (hs.mono h)
end
theorem VRs.length{ρ:Nms}:∀{l l':List Value},VRs ρ l l'→l'.length=l.length
 |_,_,.nil=>rfl
 |_,_,.cons _ hs=>by simp[hs.length]
theorem VRs.append{ρ:Nms}:∀{a a' b b':List Value},VRs ρ a a'→VRs ρ b b'→VRs ρ (a++b) (a'++b')
 |_,_,_,_,.nil,h=>h
 |_,_,_,_,.cons hv hs,h=>.cons hv (hs.append h)
mutual
theorem flat_self{ρ:Nms}:∀{v:Value},flat v=true→VR ρ v v
 |.bool _,_|.int _ _,_|.string _,_|.nilFunc,_|.nilIface,_|.pointer none,_|.map none,_|.chan none,_|.slice none _ _,_=>.same rfl
 |.agg ⟨cs⟩,h=>.agg (flats_self (by simpa[flat] using h))
 |.tuple ⟨cs⟩,h=>.tuple (flats_self (by simpa[flat] using h))
 |.float _ _,h|.complex _ _ _,h|.func _ _ _,h|.iface _ _,h=>by simp[flat] at h
 |.pointer (some _),h|.map (some _),h|.chan (some _),h|.slice (some _) _ _,h=>by simp[flat] at h
theorem flats_self{ρ:Nms}:∀{l:List Value},flats l=true→VRs ρ l l
 |[],_=>.nil
 |v::l,h=>by
  simp only[flats] at h
  split at h
  .rename_i hv;exact .cons (flat_self hv) (flats_self h)
  .cases h
end
mutual
theorem VR.flat{ρ:Nms}:∀{v v':Value},VR ρ v v'→flat v=true→v'=v
 |_,_,.same _,_=>rfl
 |_,_,.ptr _,h=>by simp[Ev.flat] at h
 |_,_,.slice _ _,h=>by simp[Ev.flat] at h
 |_,_,.map _,h=>by simp[Ev.flat] at h
 |_,_,.func _ _,h=>by simp[Ev.flat] at h
 |_,_,.yield _,h=>by simp[Ev.flat] at h
 |_,_,.chan _,h=>by simp[Ev.flat] at h
 |_,_,.agg hs,h=>by rw[hs.flats (by simpa[Ev.flat] using h)]
 |_,_,.tuple hs,h=>by rw[hs.flats (by simpa[Ev.flat] using h)]
theorem VRs.flats{ρ:Nms}:∀{l l':List Value},VRs ρ l l'→flats l=true→l'=l
 |_,_,.nil,_=>rfl
 |_,_,.cons hv hs,h=>by
  simp only[Ev.flats] at h
  split at h
  .rename_i e;rw[hv.flat e,hs.flats h]
  .cases h
end
theorem VR.single{ρ:Nms}{v v':Value}(h:VR ρ v v')(hs:single v=true):single v'=true:=by
 cases h<;>first|exact hs|rfl|(cases hs;done)
theorem VRs.single{ρ:Nms}:∀{l l':List Value},VRs ρ l l'→l.all single=true→l'.all single=true
 |_,_,.nil,_=>rfl
 |_,_,.cons hv hs,h=>by
  simp only[List.all_cons,Bool.and_eq_true] at h⊢
  exact⟨hv.single h.1,hs.single h.2⟩
theorem single_one{v:Value}:v.oneCell'=single v:=by cases v<;>rfl
theorem VR.cells{ρ:Nms}{v v':Value}(h:VR ρ v v'):VRs ρ v.cells.toList v'.cells.toList:=by
 cases h with
 |same h=>cases v<;>first|(cases h;done)|exact .cons (.same h) .nil
 |agg hs=>exact hs
 |ptr h=>exact .cons (.ptr h) .nil
 |slice h hc=>exact .cons (.slice h hc) .nil
 |map h=>exact .cons (.map h) .nil
 |func ha hb=>exact .cons (.func ha hb) .nil
 |yield h=>exact .cons (.yield h) .nil
 |chan h=>exact .cons (.chan h) .nil
 |tuple h=>exact .cons (.tuple h) .nil
theorem VRs.nth{ρ:Nms}:∀{l l':List Value},VRs ρ l l'→∀{k:Nat} {v:Value},nth l k=some v→∃v',l'[k]?=some v'∧VR ρ v v'
 |_,_,.nil,_,_,h=>by simp[Ev.nth] at h
 |_,_,.cons hv hs,0,v,h=>by simp only[Ev.nth,Option.some.injEq] at h;subst h;exact⟨_,rfl,hv⟩
 |_,_,.cons hv hs,k+1,v,h=>by simp only[Ev.nth] at h;simpa using hs.nth h
theorem takeN_eq{α:Type}:∀{l:List α} {n:Nat} {r:List α},cut.takeN l n=some r→r=l.take n∧n≤l.length
 |l,0,r,h=>by simp[cut.takeN] at h;subst h;simp
 |[],n+1,r,h=>by simp[cut.takeN] at h
 |a::l,n+1,r,h=>by
  simp only[cut.takeN,Option.map_eq_some_iff] at h
  obtain⟨x,hx,rfl⟩:=h
  obtain⟨rfl,hl⟩:=takeN_eq hx
  simp;omega
theorem cut_eq{α:Type}:∀{l:List α} {k n:Nat} {r:List α},cut l k n=some r→r=(l.drop k).take n∧(n=0∨k+n≤l.length)
 |l,0,n,r,h=>by
  have h':cut.takeN l n=some r:=by cases l<;>simpa[cut] using h
  obtain⟨rfl,hl⟩:=takeN_eq h'
  simp;omega
 |[],k+1,n,r,h=>by
  simp only[cut] at h
  obtain⟨rfl,hl⟩:=takeN_eq h
  simp at hl;subst hl;simp
 |a::l,k+1,n,r,h=>by
  simp only[cut] at h
  obtain⟨rfl,hl⟩:=cut_eq h
  simp;omega
theorem over0_eq{α:Type}:∀{l vs r:List α},over.over0 l vs=some r→r=vs++l.drop vs.length∧vs.length≤l.length
 |l,[],r,h=>by cases l<;>(simp[over.over0] at h;subst h;simp)
 |[],v::vs,r,h=>by simp[over.over0] at h
 |a::l,v::vs,r,h=>by
  simp only[over.over0,Option.map_eq_some_iff] at h
  obtain⟨x,hx,rfl⟩:=h
  obtain⟨rfl,hl⟩:=over0_eq hx
  simp;omega
theorem over_eq{α:Type}:∀{l:List α} {k:Nat} {vs r:List α},over l k vs=some r→r=l.take k++vs++l.drop (k+vs.length)∧(vs=[]∨k+vs.length≤l.length)
 |l,0,vs,r,h=>by
  have h':over.over0 l vs=some r:=by cases l<;>simpa[over] using h
  obtain⟨rfl,hl⟩:=over0_eq h'
  simp;omega
 |[],k+1,vs,r,h=>by
  simp only[over] at h
  obtain⟨rfl,hl⟩:=over0_eq h
  have:vs=[]:=List.eq_nil_of_length_eq_zero (by simpa using hl)
  subst this;simp
 |a::l,k+1,vs,r,h=>by
  simp only[over,Option.map_eq_some_iff] at h
  obtain⟨x,hx,rfl⟩:=h
  obtain⟨rfl,hl⟩:=over_eq hx
  refine⟨by simp[Nat.add_right_comm],hl.imp id fun h=>by simp;omega⟩
theorem VRs.drop{ρ:Nms}:∀{l l':List Value},VRs ρ l l'→∀k,VRs ρ (l.drop k) (l'.drop k)
 |_,_,h,0=>by simpa using h
 |_,_,.nil,_+1=>.nil
 |_,_,.cons _ hs,k+1=>by simpa using hs.drop k
theorem VRs.take{ρ:Nms}:∀{l l':List Value},VRs ρ l l'→∀k,VRs ρ (l.take k) (l'.take k)
 |_,_,_,0=>by simpa using .nil
 |_,_,.nil,_+1=>.nil
 |_,_,.cons hv hs,k+1=>by simpa using VRs.cons hv (hs.take k)
theorem VRs.get{ρ:Nms}:∀{l l':List Value},VRs ρ l l'→∀{k:Nat} {v:Value},l[k]?=some v→∃v',l'[k]?=some v'∧VR ρ v v'
 |_,_,.nil,_,_,h=>by simp at h
 |_,_,.cons hv hs,0,v,h=>by simp at h;subst h;exact⟨_,rfl,hv⟩
 |_,_,.cons hv hs,k+1,v,h=>by simp at h;simpa using hs.get h
structure TR(ρ:Nms)(n:Nat)(t:T Value)(a:Array Value):Prop where
 size:a.size=n
 get:∀i v,t.get i=some v→∃v',a[i]?=some v'∧VR ρ v v'
def OR(ρ:Nms)(k:Nat):Ob→Obj→Prop
 |.cells c e s,o=>∃d r,o=.cells ⟨d++r⟩ e (0,0)∧VRs ρ c d∧(s=none→r=[])∧(∀z,s=some z→(d++r).length=k*z∧k≤maxLen∧0<z∧∀x∈r,atom x=true)
 |.map es c,o=>o=.map ⟨es⟩ c∧flatE es=true
 |.iter m s l p,o=>∃m',o=.mapIter m' s ⟨l⟩ p∧(match m,m' with|none,none=>True|some m,some m'=>BR ρ m m'|_,_=>False)
 |.loop st j f t n ps as b d,o=>∃tm d',o=.loop {state:=st,pending:=j,fn:=f,tmps:=tm,params:=ps,assign:=as,body:=b,defers:=d'}∧TR ρ n t tm∧BR ρ d d'
 |.calls op,o=>o=.deferred (match op with|true=>some []|false=>none)
 |.bag c e,o=>∃p d r,c.Perm p∧o=.cells ⟨d++r⟩ e (0,0)∧VRs ρ p d
 |.sack c e z,o=>∃p d r,c.Perm p∧o=.cells ⟨d++r⟩ e (0,0)∧VRs ρ p.flatten d∧(d++r).length=k*z∧k≤maxLen∧0<z∧∀x∈r,atom x=true
 |.half c q e z,o=>∃p d d2 r,q.Perm p∧o=.cells ⟨d++(d2++r)⟩ e (0,0)∧VRs ρ c d∧VRs ρ p.flatten d2∧(d++(d2++r)).length=k*z∧k≤maxLen∧0<z∧∀x∈r,atom x=true
 |.shut c e,o=>∃d r fz,o=.cells ⟨d++r⟩ e fz∧VRs ρ c d
def numB:Obj→Bool
 |.number ..=>true
 |_=>false
theorem OR.notNum{ρ:Nms}{k:Nat}{o:Ob}{x:Obj}(h:OR ρ k o x):numB x=false:=by
 cases o with
 |cells c e s=>obtain⟨_,_,rfl,_⟩:=h;rfl
 |map es c=>obtain⟨rfl,_⟩:=h;rfl
 |iter m s l p=>obtain⟨_,rfl,_⟩:=h;rfl
 |loop st j f t n ps as b d=>obtain⟨_,_,rfl,_⟩:=h;rfl
 |calls op=>have e:x=_:=h;rw[e];rfl
 |bag c e=>obtain⟨_,_,_,_,rfl,_⟩:=h;rfl
 |sack c e z=>obtain⟨_,_,_,_,rfl,_⟩:=h;rfl
 |half c q e z=>obtain⟨_,_,_,_,_,rfl,_⟩:=h;rfl
 |shut c e=>obtain⟨_,_,_,rfl,_⟩:=h;rfl
def NoNum(w:World):Prop:=∀(x:Nat) (o:Obj),w.heap[x]?=some o→numB o=false
theorem NoNum.same{w w':World}(h:NoNum w)(e:w'.heap=w.heap):NoNum w':=fun x o hx=>h x o (by rw[←e];exact hx)
theorem NoNum.push{w w':World}{o:Obj}(h:NoNum w)(e:w'.heap=w.heap.push o)(ho:numB o=false):NoNum w':=fun x o' hx=>by
 rw[e,Array.getElem?_push] at hx
 split at hx
 .cases hx;exact ho
 .exact h x o' hx
theorem NoNum.set{w w':World}{x:Nat}{o:Obj}(h:NoNum w)(hw:w'.heap[x]?=some o)(hn:∀y,y≠x→w'.heap[y]?=w.heap[y]?)(ho:numB o=false):NoNum w':=fun y o' hy=>by
 by_cases e:y=x
 .subst e;rw[hw] at hy;cases hy;exact ho
 .rw[hn y e] at hy;exact h y o' hy
structure HR(ρ:Nms)(h:H)(w:World):Prop where
 tame:NoNum w
 ob:∀b o,h.get b=some o→∃x k o',ρ b=.at_ x k∧w.heap[x]?=some o'∧OR ρ k o o'
 inj:∀b c x k l,(h.get b).isSome=true→(h.get c).isSome=true→ρ b=.at_ x k→ρ c=.at_ x l→b=c
theorem TR.mono{ρ ρ':Nms}(h:Le ρ ρ'){n:Nat}{t:T Value}{a:Array Value}(ht:TR ρ n t a):TR ρ' n t a:=
 ⟨ht.size,fun i v hv=>let ⟨v',h1,h2⟩:=ht.get i v hv;⟨v',h1,h2.mono h⟩⟩
theorem OR.mono{ρ ρ':Nms}(h:Le ρ ρ'){k:Nat}{o:Ob}{o':Obj}(ho:OR ρ k o o'):OR ρ' k o o':=by
 cases o with
 |cells c e s=>obtain⟨d,r,h1,h2,h3⟩:=ho;exact⟨d,r,h1,h2.mono h,h3⟩
 |map es c=>exact ho
 |iter m s l p=>
  obtain⟨m',h1,h2⟩:=ho
  refine⟨m',h1,?_⟩
  cases m<;>cases m'<;>first|trivial|exact h2|exact h2.mono h
 |loop st j f t n ps as b d=>obtain⟨tm,d',h1,h2,h3⟩:=ho;exact⟨tm,d',h1,h2.mono h,h3.mono h⟩
 |calls op=>exact ho
 |bag c e=>obtain⟨p,d,r,h1,h2,h3⟩:=ho;exact⟨p,d,r,h1,h2,h3.mono h⟩
 |sack c e z=>obtain⟨p,d,r,h1,h2,h3,h4⟩:=ho;exact⟨p,d,r,h1,h2,h3.mono h,h4⟩
 |half c q e z=>obtain⟨p,d,d2,r,h1,h2,h3,h4,h5⟩:=ho;exact⟨p,d,d2,r,h1,h2,h3.mono h,h4.mono h,h5⟩
 |shut c e=>obtain⟨d,r,fz,h1,h2⟩:=ho;exact⟨d,r,fz,h1,h2.mono h⟩
structure Stp(ρ:Nms)(h:H)(w:World)(ρ':Nms)(h':H)(w':World):Prop where
 le:Le ρ ρ'
 next:h.next≤h'.next
 born:∀b,ρ b=.unborn→(b<h.next∨h'.next≤b)→ρ' b=.unborn
 size:w.heap.size≤w'.heap.size
 log:∃l,h'.log=l++h.log ∧
  (∀x o,w.heap[x]?=some o→(∀b k,b∈l→ρ b≠.at_ x k)→w'.heap[x]?=some o) ∧
  (∀b x k,ρ' b=.at_ x k→ρ b=.at_ x k∨(ρ b=.unborn∧(w.heap.size≤x ∨ ∃c m,c∈l∧ρ c=.at_ x m))) ∧
  (∀b,b∈l→(h.get b).isSome=true∨(h.next≤b∧b<h'.next)) ∧
  (∀b,b∉l→h'.get b=h.get b) ∧
  (∀b,b∉l→ρ b≠.unborn→ρ' b=ρ b)
theorem Stp.refl(ρ:Nms)(h:H)(w w':World)(e:w'.heap=w.heap):Stp ρ h w ρ h w':=
 ⟨.refl ρ,Nat.le_refl _,fun _ h _=>h,by rw[e];exact Nat.le_refl _,[],rfl,fun x o hx _=>by rw[e];exact hx,fun _ _ _ h=>.inl h,fun _ h=>by simp at h,fun _ _=>rfl,fun _ _ _=>rfl⟩
theorem Stp.trans{ρ ρ1 ρ2:Nms}{h h1 h2:H}{w w1 w2:World}(a:Stp ρ h w ρ1 h1 w1)(b:Stp ρ1 h1 w1 ρ2 h2 w2):Stp ρ h w ρ2 h2 w2:=by
 obtain⟨l1,e1,f1,o1,t1,s1,k1⟩:=a.log
 obtain⟨l2,e2,f2,o2,t2,s2,k2⟩:=b.log
 refine⟨a.le.trans b.le,Nat.le_trans a.next b.next,fun x hu hr=>?_,Nat.le_trans a.size b.size,l2++l1,by rw[e2,e1,List.append_assoc],fun x o hx hn=>?_,fun y x k hy=>?_,fun y hy=>?_,fun y hy=>?_,fun y hy hu=>?_⟩
 .have n1:=a.next
  have n2:=b.next
  exact b.born x (a.born x hu (by omega)) (by omega)
 .refine f2 x o (f1 x o hx fun y k hy=>hn y k (by simp[hy])) fun y k hy e=>?_
  rcases o1 y x k e with h|⟨_,h|⟨c,m,hc,hm⟩⟩
  .exact hn y k (by simp[hy]) h
  .have:=(Array.getElem?_eq_some_iff.1 hx).1;omega
  .exact hn c m (by simp[hc]) hm
 .rcases o2 y x k hy with h|⟨hu,h⟩
  .rcases o1 y x k h with h|⟨hu,h|⟨c,m,hc,hm⟩⟩
   .exact .inl h
   .exact .inr ⟨hu,.inl h⟩
   .exact .inr ⟨hu,.inr ⟨c,m,by simp[hc],hm⟩⟩
  .have hu0:ρ y=.unborn:=by
    rcases a.le y with h|h|h
    .exact h
    .rw[←h];exact hu
    .rw[h] at hu;cases hu
   refine .inr ⟨hu0,?_⟩
   rcases h with h|⟨c,m,hc,hm⟩
   .exact .inl (Nat.le_trans a.size h)
   .rcases o1 c x m hm with h|⟨_,h|⟨d,m',hd,hm'⟩⟩
    .exact .inr ⟨c,m,by simp[hc],h⟩
    .exact .inl h
    .exact .inr ⟨d,m',by simp[hd],hm'⟩
 .have n1:=a.next
  have n2:=b.next
  rcases List.mem_append.1 hy with hy|hy
  .rcases t2 y hy with h|h
   .by_cases hm:y∈l1
    .rcases t1 y hm with h|h
     .exact .inl h
     .exact .inr (by omega)
    .rw[s1 y hm] at h;exact .inl h
   .exact .inr (by omega)
  .rcases t1 y hy with h|h
   .exact .inl h
   .exact .inr (by omega)
 .rw[s2 y (fun h=>hy (by simp[h])),s1 y (fun h=>hy (by simp[h]))]
 .have h1:=k1 y (fun h=>hy (by simp[h])) hu
  rw[k2 y (fun h=>hy (by simp[h])) (by rw[h1];exact hu),h1]
section
variable{P:Program}{ρ:Nms}
theorem look_run{α:Type}:∀{s:Sem α} {a:α},look P s=some a→∀w,s.run P w=.ok a w
 |.pure b,a,h,w=>by simp only[look,Option.some.injEq] at h;subst h;rfl
 |.program k,a,h,w=>by simp only[look] at h;exact look_run h w
 |.load ..,_,h,_|.store ..,_,h,_|.new ..,_,h,_|.shape ..,_,h,_|.freeze ..,_,h,_|.frozen ..,_,h,_|.getObj ..,_,h,_|.setObj ..,_,h,_
 |.choose ..,_,h,_|.sys ..,_,h,_|.mark ..,_,h,_|.halt ..,_,h,_=>by simp[look] at h
theorem add_plain{a:Addr}(h:a.spot=none)(n:Nat):a.add n=⟨a.block,a.off+n,none⟩:=by
 obtain⟨b,o,s⟩:=a
 simp only at h;subst h
 unfold Addr.add
 split<;>simp_all
theorem plainAddr_eq{a r:Addr}{n:Nat}(h:plainAddr a n=some r):r=⟨a.block,a.off+n,none⟩∧a.spot=none:=by
 unfold plainAddr at h
 split at h
 .rename_i hs;cases h;exact⟨rfl,hs⟩
 .cases h
theorem AR.add{a a':Addr}(h:AR ρ a a')(n:Nat):AR ρ ⟨a.block,a.off+n,none⟩ (a'.add n):=by
 rw[add_plain h.spot']
 exact⟨h.block,by show a'.off+n=a.off+n;rw[h.off],rfl,rfl⟩
theorem nth_get{α:Type}:∀{l:List α} {k:Nat},nth l k=l[k]?
 |[],_=>by simp[nth]
 |a::l,0=>rfl
 |a::l,k+1=>by simp only[nth,List.getElem?_cons_succ];exact nth_get
theorem small_eq{i:Int}{y k:Nat}(h:small i y=some k):i=(k:Int)∧k<y:=by
 unfold small at h
 split at h
 .split at h
  .rename_i hb;cases h;exact⟨rfl,by rw[Nat.blt_eq] at hb;exact hb⟩
  .cases h
 .cases h
theorem VR.inv_ptr{a:Addr}{v':Value}(h:VR ρ (.pointer (some a)) v'):∃a',v'=.pointer (some a')∧AR ρ a a':=by
 cases h with
 |same h=>cases h
 |ptr h=>exact⟨_,rfl,h⟩
theorem VR.inv_int{k:IntKind}{i:Int}{v':Value}(h:VR ρ (.int k i) v'):v'=.int k i:=by
 cases h;rfl
theorem VR.inv_bool{b:Bool}{v':Value}(h:VR ρ (.bool b) v'):v'=.bool b:=by
 cases h;rfl
theorem VR.inv_string{b:ByteArray}{v':Value}(h:VR ρ (.string b) v'):v'=.string b:=by
 cases h;rfl
theorem VR.inv_slice{a:Addr}{n c:Nat}{v':Value}(h:VR ρ (.slice (some a) n c) v'):∃a' c',v'=.slice (some a') n c'∧AR ρ a a'∧CR ρ a n c c':=by
 cases h with
 |same h=>cases h
 |slice h hc=>exact⟨_,_,rfl,h,hc⟩
theorem VR.inv_nilslice{n c:Nat}{v':Value}(h:VR ρ (.slice none n c) v'):v'=.slice none n c:=by
 cases h;rfl
theorem VR.inv_agg{cs:List Value}{v':Value}(h:VR ρ (.agg ⟨cs⟩) v'):∃cs',v'=.agg ⟨cs'⟩∧VRs ρ cs cs':=by
 cases h with
 |same h=>cases h
 |agg h=>exact⟨_,rfl,h⟩
theorem VR.inv_tuple{cs:List Value}{v':Value}(h:VR ρ (.tuple ⟨cs⟩) v'):∃cs',v'=.tuple ⟨cs'⟩∧VRs ρ cs cs':=by
 cases h with
 |same h=>cases h
 |tuple h=>exact⟨_,rfl,h⟩
theorem VR.inv_map{r:Nat}{v':Value}(h:VR ρ (.map (some r)) v'):∃r',v'=.map (some r')∧BR ρ r r':=by
 cases h with
 |same h=>cases h
 |map h=>exact⟨_,rfl,h⟩
theorem VR.slice_len{b:Option Addr}{n c:Nat}{v':Value}(h:VR ρ (.slice b n c) v'):∃b' c',v'=.slice b' n c'∧(c<soft→c'=c):=by
 cases b with
 |none=>obtain rfl:=h.inv_nilslice;exact⟨_,_,rfl,fun _=>rfl⟩
 |some a=>
  obtain⟨a',c',rfl,_,hc⟩:=h.inv_slice
  refine⟨_,_,rfl,fun hlt=>?_⟩
  rcases hc with h|h
  .exact h.2
  .omega
def Env(ρ:Nms)(ρE:Operand→Option Value)(ρr:Operand→Value):Prop:=∀x v,ρE x=some v→VR ρ v (ρr x)
variable{ρE:Operand→Option Value}{ρr:Operand→Value}
theorem Env.opts(hE:Env ρ ρE ρr):∀{xs:List Operand} {vs:List Value},opts ρE xs=some vs→VRs ρ vs (xs.map ρr)
 |[],vs,h=>by simp only[Ev.opts,Option.some.injEq] at h;subst h;exact .nil
 |x::xs,vs,h=>by
  simp only[Ev.opts] at h
  split at h
  .rename_i v vs' h1 h2;cases h;exact .cons (hE _ _ h1) (hE.opts h2)
  .cases h
theorem Env.opt(hE:Env ρ ρE ρr){x:Option Operand}{v:Option Value}(h:opt ρE x=some v):(v=none∧x.map ρr=none) ∨ ∃u u',v=some u∧x.map ρr=some u'∧VR ρ u u':=by
 cases x with
 |none=>simp only[Ev.opt,Option.some.injEq] at h;exact .inl ⟨h.symm,rfl⟩
 |some x=>
  simp only[Ev.opt] at h
  split at h
  .rename_i u hu;cases h;exact .inr ⟨u,_,rfl,rfl,hE _ _ hu⟩
  .cases h
theorem field_ok{t:TypeId}{v v' r:Value}{f:Nat}(h:fieldV P t v f=some r)(hv:VR ρ v v')(w:World):∃r',(Instr.fieldAt t v' f).run P w=.ok r' w∧VR ρ r r':=by
 unfold fieldV at h
 split at h
 .rename_i fs a ht
  split at h
  .rename_i g hg
   split at h
   .rename_i i hi
    split at h
    .cases h
    .rename_i hz
     split at h
     .rename_i a1 ha
      cases h
      obtain⟨a',rfl,har⟩:=hv.inv_ptr
      obtain⟨rfl,_⟩:=plainAddr_eq ha
      refine⟨.pointer (some (a'.add g.offset)),?_,.ptr (har.add _)⟩
      have hne:i.size≠0:=fun e=>by rw[e] at hz;cases hz
      rw[nth_get] at hg
      have hg:fs[f]?=some g:=by simpa using hg
      simp[Instr.fieldAt,run_underlying ht,hg,Instr.sureAddr,fieldPlace,sizeOf,typeInfo,hi,hne]
     .cases h
   .cases h
  .cases h
 .cases h
theorem at_ok{n:Nat}{e:TypeId}{a a':Addr}{i:Int}{k:IntKind}{r:Value}(h:indexV.at_ P n e a i=some r)(ha:AR ρ a a')(w:World):∃r' j,(0≤i∧i<n)∧P.info? e=some j∧r'=.pointer (some (a'.add (i.toNat*j.size)))∧VR ρ r r':=by
 unfold indexV.at_ at h
 split at h
 .rename_i m j hs hi
  split at h
  .rename_i a1 h1
   cases h
   obtain⟨rfl,_⟩:=plainAddr_eq h1
   obtain⟨rfl,hlt⟩:=small_eq hs
   exact⟨_,j,by omega,hi,rfl,.ptr (by simpa using ha.add _)⟩
  .cases h
 .cases h
theorem index_ok{t:TypeId}{v v' i i' r:Value}(h:indexV P t v i=some r)(hv:VR ρ v v')(hi:VR ρ i i')(w:World):∃r',(Instr.indexAt t v' i').run P w=.ok r' w∧VR ρ r r':=by
 unfold indexV at h
 split at h
 .rename_i k i
  obtain rfl:=hi.inv_int
  split at h
  .rename_i n e a ht
   obtain⟨a',rfl,ha⟩:=hv.inv_ptr
   obtain⟨r',j,hb,hj,rfl,hr⟩:=at_ok (k:=k) h ha w
   refine⟨_,?_,hr⟩
   simp[Instr.indexAt,asIntOf,run_underlying ht,Instr.sureAddr,hb,sizeOf,typeInfo,hj]
  .rename_i e a n c ht
   obtain⟨a',c',rfl,ha,_⟩:=hv.inv_slice
   obtain⟨r',j,hb,hj,rfl,hr⟩:=at_ok (k:=k) h ha w
   refine⟨_,?_,hr⟩
   simp[Instr.indexAt,asIntOf,run_underlying ht,hb,sizeOf,typeInfo,hj]
  .cases h
 .cases h
theorem bound_ok{x:Option Value}{d y l:Nat}(h:boundV x d y=some l):(x=none∧l=d) ∨ ∃k,x=some (.int k (l:Int))∧l≤y:=by
 unfold boundV at h
 split at h
 .cases h;exact .inl ⟨rfl,rfl⟩
 .obtain⟨rfl,hl⟩:=small_eq h
  exact .inr ⟨_,rfl,by omega⟩
 .cases h
def ORel(ρ:Nms)(x x':Option Value):Prop:=(x=none∧x'=none) ∨ ∃u u',x=some u∧x'=some u'∧VR ρ u u'
theorem ORel.none{x':Option Value}(h:ORel ρ none x'):x'=none:=by
 rcases h with⟨_,h⟩|⟨_,_,h,_⟩
 .exact h
 .cases h
theorem ORel.int{k:IntKind}{i:Int}{x':Option Value}(h:ORel ρ (some (.int k i)) x'):x'=some (.int k i):=by
 rcases h with⟨h,_⟩|⟨u,u',h,rfl,hv⟩
 .cases h
 .cases h;rw[hv.inv_int]
theorem run_sliceBound{k:IntKind}{l y:Nat}(h:l≤y)(c:BoundsCode)(w:World):(Instr.sliceBound (.int k (l:Int)) y c).run P w=.ok l w:=by
 simp[Instr.sliceBound,asIntOf,h]
theorem bounds_ok{lo hi mx lo' hi' mx':Option Value}{n lim l h:Nat}{m:Option Nat}(e:boundsV lo hi mx n lim=some (l,h,m))(h1:ORel ρ lo lo')(h2:ORel ρ hi hi')(h3:ORel ρ mx mx')(b:Bool){cap:Nat}(hc:lim≤cap)(w:World):(Instr.sliceBounds b n cap lo' hi' mx').run P w=.ok (l,h,m.getD cap) w∧l≤h∧(hi=none→h=n)∧(hi≠none→h≤lim)∧(∀k,m=some k→k≤lim∧h≤k):=by
 unfold boundsV at e
 cases mx with
 |none=>
  obtain rfl:=h3.none
  simp only at e
  cases eh:boundV hi n lim with
  |none=>simp[eh] at e
  |some h0=>
   cases el:boundV lo 0 h0 with
   |none=>simp[eh,el] at e
   |some l0=>
    simp only[eh,el,Option.some.injEq,Prod.mk.injEq] at e
    obtain⟨rfl,rfl,rfl⟩:=e
    rcases bound_ok eh with⟨rfl,rfl⟩|⟨k,rfl,hh⟩
    .obtain rfl:=h2.none
     rcases bound_ok el with⟨rfl,rfl⟩|⟨k,rfl,hl⟩
     .obtain rfl:=h1.none
      exact⟨by simp[Instr.sliceBounds],by omega,fun _=>rfl,fun h=>absurd rfl h,fun _ h=>by cases h⟩
     .rw[h1.int]
      exact⟨by simp[Instr.sliceBounds,run_sliceBound hl],hl,fun _=>rfl,fun h=>absurd rfl h,fun _ h=>by cases h⟩
    .rw[h2.int]
     have hh':h0≤cap:=Nat.le_trans hh hc
     rcases bound_ok el with⟨rfl,rfl⟩|⟨k,rfl,hl⟩
     .obtain rfl:=h1.none
      exact⟨by simp[Instr.sliceBounds,run_sliceBound hh'],by omega,fun h=>(by cases h),fun _=>hh,fun _ h=>by cases h⟩
     .rw[h1.int]
      exact⟨by simp[Instr.sliceBounds,run_sliceBound hl,run_sliceBound hh'],hl,fun h=>(by cases h),fun _=>hh,fun _ h=>by cases h⟩
 |some u=>
  cases hi with
  |none=>simp at e
  |some u'=>
   simp only at e
   cases em:boundV (some u) lim lim with
   |none=>simp[em] at e
   |some m0=>
    cases eh:boundV (some u') n m0 with
    |none=>simp[em,eh] at e
    |some h0=>
     cases el:boundV lo 0 h0 with
     |none=>simp[em,eh,el] at e
     |some l0=>
      simp only[em,eh,el,Option.some.injEq,Prod.mk.injEq] at e
      obtain⟨rfl,rfl,rfl⟩:=e
      rcases bound_ok em with⟨hx,_⟩|⟨k,hx,hm⟩
      .cases hx
      cases hx
      rw[h3.int]
      have hm':m0≤cap:=Nat.le_trans hm hc
      rcases bound_ok eh with⟨hx,_⟩|⟨k,hx,hh⟩
      .cases hx
      cases hx
      rw[h2.int]
      rcases bound_ok el with⟨rfl,rfl⟩|⟨k,rfl,hl⟩
      .obtain rfl:=h1.none
       exact⟨by simp[Instr.sliceBounds,run_sliceBound hm',run_sliceBound hh],by omega,fun h=>(by cases h),fun _=>by omega,fun _ h=>by cases h;exact⟨hm,hh⟩⟩
      .rw[h1.int]
       exact⟨by simp[Instr.sliceBounds,run_sliceBound hm',run_sliceBound hh,run_sliceBound hl],hl,fun h=>(by cases h),fun _=>by omega,fun _ h=>by cases h;exact⟨hm,hh⟩⟩
theorem part_ok{a a':Addr}{size l h m:Nat}{r:Value}(e:partOf a size l h m=some r)(ha:AR ρ a a'):VR ρ r (.slice (some (if m=l then a' else a'.add (l*size))) (h-l) (m-l)):=by
 unfold partOf at e
 split at e
 .rename_i a1 h1 hs
  cases e
  obtain⟨rfl,_⟩:=plainAddr_eq h1
  rw[Nat.blt_eq] at hs
  by_cases hm:m=l
  .subst hm
   simp only[Nat.beq_refl,if_true]
   exact .slice ha (.inl ⟨by omega,rfl⟩)
  .have hb:Nat.beq m l=false:=by
    cases hb:Nat.beq m l
    .rfl
    .exact absurd (Nat.eq_of_beq_eq_true hb) hm
   rw[hb,if_neg hm]
   exact .slice (ha.add _) (.inl ⟨by omega,rfl⟩)
 .cases e
theorem arr_ok{lo hi mx lo' hi' mx':Option Value}{n:Nat}{e:TypeId}{a a':Addr}{r:Value}(h:sliceV.arr P lo hi mx n e a=some r)(h1:ORel ρ lo lo')(h2:ORel ρ hi hi')(h3:ORel ρ mx mx')(ha:AR ρ a a')(w:World):∃l h' m i,(Instr.sliceBounds false n n lo' hi' mx').run P w=.ok (l,h',m) w∧P.info? e=some i∧VR ρ r (.slice (some (if m=l then a' else a'.add (l*i.size))) (h'-l) (m-l)):=by
 unfold sliceV.arr at h
 split at h
 .rename_i l h0 m i eb hi
  obtain⟨hr,_⟩:=bounds_ok (P:=P) eb h1 h2 h3 false (Nat.le_refl n) w
  exact⟨l,h0,_,i,hr,hi,part_ok h ha⟩
 .cases h
theorem slice_ok{t:TypeId}{x x' r:Value}{lo hi mx lo' hi' mx':Option Value}(h:sliceV P t x lo hi mx=some r)(hx:VR ρ x x')(h1:ORel ρ lo lo')(h2:ORel ρ hi hi')(h3:ORel ρ mx mx')(w:World):∃r',(Instr.sliceAt t x' lo' hi' mx').run P w=.ok r' w∧VR ρ r r':=by
 unfold sliceV at h
 split at h
 .rename_i e a n cap ht
  split at h
  .rename_i hs
   rw[Nat.blt_eq] at hs
   split at h
   .rename_i l hh m i eb hi
    split at h
    .rename_i a
     obtain⟨a',c',rfl,ha,hc⟩:=hx.inv_slice
     obtain rfl:c'=cap:=by rcases hc with hc|hc<;>omega
     obtain⟨hr,_⟩:=bounds_ok (P:=P) eb h1 h2 h3 true (Nat.le_refl _) w
     refine⟨_,?_,part_ok h ha⟩
     simp[Instr.sliceAt,Instr.slice,run_underlying ht,hr,sizeOf,typeInfo,hi]
     split<;>simp_all
    .obtain rfl:=hx.inv_nilslice
     cases h
     obtain⟨hr,_⟩:=bounds_ok (P:=P) eb h1 h2 h3 true (Nat.le_refl _) w
     refine⟨_,?_,.same rfl⟩
     simp[Instr.sliceAt,Instr.slice,run_underlying ht,hr,sizeOf,typeInfo,hi]
   .cases h
  .rename_i hs
   have hs:soft≤cap:=by
    cases hb:Nat.blt cap soft
    .by_cases hlt:cap<soft
     .rw[←Nat.blt_eq] at hlt;rw[hlt] at hb;cases hb
     .omega
    .rw[hb] at hs;cases hs
   split at h
   .rename_i l hh m i a eb hi
    obtain⟨a',c',rfl,ha,hc⟩:=hx.inv_slice
    obtain⟨hn,hk⟩:n≤c'∧∀x k,ρ a.block=.at_ x k→c'=k:=hc.elim (fun hc=>absurd hc.1 (by omega)) (·.2)
    obtain⟨hr,_⟩:=bounds_ok (P:=P) eb h1 h2 h3 true hn w
    refine⟨_,?_,part_ok h ha⟩
    simp[Instr.sliceAt,Instr.slice,run_underlying ht,hr,sizeOf,typeInfo,hi]
    split<;>simp_all
   .rename_i hh i b o eb hpi
    cases h
    obtain⟨a',c',rfl,ha,hc⟩:=hx.inv_slice
    obtain⟨hn,hk⟩:n≤c'∧∀x k,ρ b=.at_ x k→c'=k:=hc.elim (fun hc=>absurd hc.1 (by omega)) (·.2)
    obtain⟨hr,_,q1,q2,_⟩:=bounds_ok (P:=P) eb h1 h2 h3 true hn w
    have hle:hh≤n:=by
     by_cases e:hi=none
     .exact Nat.le_of_eq (q1 e)
     .exact q2 e
    refine⟨.slice (some a') hh c',?_,.slice ha (.inr ⟨hs,by omega,hk⟩)⟩
    simp[Instr.sliceAt,Instr.slice,run_underlying ht,hr,sizeOf,typeInfo,hpi,add_plain ha.spot']
    intro _
    have hsp:=ha.spot'
    obtain⟨_,_,_⟩:=a'
    simp only at hsp
    rw[hsp]
   .cases h
 .rename_i n e a ht
  obtain⟨a',rfl,ha⟩:=hx.inv_ptr
  obtain⟨l,h',m,i,hr,hi,hv⟩:=arr_ok h h1 h2 h3 ha w
  refine⟨_,?_,hv⟩
  simp[Instr.sliceAt,run_underlying ht,Instr.sureAddr,hr,sizeOf,typeInfo,hi]
 .rename_i p a ht
  split at h
  .rename_i n e hp
   obtain⟨a',rfl,ha⟩:=hx.inv_ptr
   obtain⟨l,h',m,i,hr,hi,hv⟩:=arr_ok h h1 h2 h3 ha w
   refine⟨_,?_,hv⟩
   simp[Instr.sliceAt,Instr.slice,run_underlying ht,run_underlying hp,asAddr,hr,sizeOf,typeInfo,hi]
  .cases h
 .cases h
theorem agg_run{t:TypeId}{d:TypeDesc}(ht:P.underlying t=some d)(w:World):(isAgg t).run P w=.ok (aggB d) w:=by
 cases d<;>simp[isAgg,run_underlying ht,aggB]
theorem partV_ok{t:TypeId}{cs cs':List Value}{off:Nat}{r:Value}(h:partV P t cs off=some r)(hv:VRs ρ cs cs')(w:World):∃r',(part t ⟨cs'⟩ off).run P w=.ok r' w∧VR ρ r r':=by
 unfold partV at h
 split at h
 .rename_i d i ht hi
  split at h
  .rename_i hd
   split at h
   .rename_i l hl
    cases h
    obtain⟨rfl,hle⟩:=cut_eq hl
    refine⟨.agg ⟨(cs'.drop off).take i.size⟩,?_,.agg ((hv.drop off).take _)⟩
    simp[part,agg_run ht,hd,sizeOf,typeInfo,hi]
    first
     |done
     |(rw[List.extract_eq_take_drop];first|rfl|(congr 3;omega))
   .cases h
  .rename_i hd
   rw[nth_get] at h
   obtain⟨r',h1,h2⟩:=hv.get h
   refine⟨r',?_,h2⟩
   simp[part,agg_run ht,hd,h1]
 .cases h
theorem places_ok:∀{fs:List (Nat×TypeId)} {l:List (Nat×Nat)},places P fs=some l→∀w,((fs.mapM fun f=>do pure (f.1,←sizeOf f.2):Sem (List (Nat×Nat)))).run P w=.ok l w
 |[],l,h,w=>by simp only[places,Option.some.injEq] at h;subst h;rfl
 |(off,t)::fs,l,h,w=>by
  simp only[places] at h
  split at h
  .rename_i i l' hi hl
   cases h
   have:=places_ok hl w
   have hs:(Go.sizeOf t).run P w=.ok i.size w:=by simp[Go.sizeOf,typeInfo,hi]
   simp at this
   simp[List.mapM_cons,hs,this]
  .cases h
theorem flats_env(hE:Env ρ ρE ρr){xs:List Operand}{vs:List Value}(h:opts ρE xs=some vs)(hf:flats vs=true):xs.map ρr=vs:=(hE.opts h).flats hf
theorem VRs.set{l l':List Value}(h:VRs ρ l l'){v v':Value}(hv:VR ρ v v'):∀k,VRs ρ (l.set k v) (l'.set k v'):=by
 induction h using VRs.rec (motive_1:=fun _ _ _=>True) with
 |nil=>intro k;simpa using .nil
 |cons h1 h2 _ ih=>
  intro k
  cases k with
  |zero=>exact .cons hv h2
  |succ k=>exact .cons h1 (ih k)
 |_=>trivial
theorem fold_ok:∀{cs cs':List Value} (hc:VRs ρ cs cs') (off j:Nat) {a a':List Value},VRs ρ a a'→VRs ρ ((cs.zipIdx j).foldl (fun(x:Array Value) (c:Value×Nat)=>x.setIfInBounds (off+c.2) c.1) ⟨a⟩).toList ((cs'.zipIdx j).foldl (fun(x:Array Value) (c:Value×Nat)=>x.setIfInBounds (off+c.2) c.1) ⟨a'⟩).toList
 |_,_,.nil,off,j,a,a',h=>h
 |_,_,.cons (v:=v) (v':=v') hv hs,off,j,a,a',h=>by
  simp only[List.zipIdx_cons,List.foldl_cons]
  have e:∀(x:List Value) (u:Value),(⟨x⟩:Array Value).setIfInBounds (off+j) u=⟨x.set (off+j) u⟩:=fun x u=>by
   apply Array.ext';simp
  rw[e,e]
  exact fold_ok hs off (j+1) (h.set hv _)
theorem fill_ok(pl:Nat→Option (Nat×Nat)):∀{ps:List Nat} {vs vs':List Value} (_:VRs ρ vs vs') {cs cs':List Value} (_:VRs ρ cs cs') {r:Array Value},Instr.fill pl ⟨cs⟩ (ps.zip vs)=some r→∃r',Instr.fill pl ⟨cs'⟩ (ps.zip vs')=some r'∧VRs ρ r.toList r'.toList
 |[],_,_,_,cs,cs',hc,r,h=>by simp[Instr.fill] at h⊢;subst h;exact hc
 |p::ps,_,_,.nil,cs,cs',hc,r,h=>by simp[Instr.fill] at h⊢;subst h;exact hc
 |p::ps,_,_,.cons (v:=v) (v':=v') hv hs,cs,cs',hc,r,h=>by
  simp only[List.zip_cons_cons,Instr.fill] at h⊢
  cases hp:pl p with
  |none=>simp[hp] at h
  |some x=>
   obtain⟨off,size⟩:=x
   simp only[hp] at h⊢
   have e1:v'.cells.size=v.cells.size:=by have:=hv.cells.length;simpa using this
   have e2:(⟨cs'⟩:Array Value).size=(⟨cs⟩:Array Value).size:=by simpa using hc.length
   rw[e1,e2]
   split at h
   .cases h
   .rename_i hn
    rw[if_neg hn]
    have hfo:=fold_ok hv.cells off 0 hc
    have z1:v.cells.zipIdx=⟨v.cells.toList.zipIdx⟩:=by apply Array.ext';simp
    have z2:v'.cells.zipIdx=⟨v'.cells.toList.zipIdx⟩:=by apply Array.ext';simp
    rw[z1] at h
    rw[z2]
    simp only[←Array.foldl_toList] at h⊢
    exact fill_ok pl hs hfo h
theorem map_snd{ps:Array (Nat×Operand)}:(ps.map fun(i,x)=>(i,ρr x)).toList=(ps.toList.map (·.1)).zip (ps.toList.map (ρr ·.2)):=by
 simp only[Array.toList_map]
 induction ps.toList with
 |nil=>rfl
 |cons p l ih=>simp[ih]
theorem zero_ok{t:TypeId}{z:Value}(h:zeroOf P t=some z)(w:World):(zeroValue t).run P w=.ok z w∧flat z=true:=by
 unfold zeroOf at h
 split at h
 .rename_i i hi
  split at h
  .rename_i z' hz
   split at h
   .rename_i hf;cases h;exact⟨by simp[zeroValue,typeInfo,hi,hz],hf⟩
   .cases h
  .cases h
 .cases h
theorem flatO_eq{x:Option Value}{v:Value}(h:flatO x=some v):x=some v∧flat v=true:=by
 unfold flatO at h
 split at h
 .split at h
  .rename_i hf;cases h;exact⟨rfl,hf⟩
  .cases h
 .cases h
theorem run_builtin{o:Oper}{c:Call}{b:Builtin}(hb:c.callee=.builtin b)(w:World) :
  (do let d ← resolve ρr c o.type;invoke d.target d.args:Sem Next).run P w=(builtin b c.argTypes o.type (c.args.map fun|.const _=>true|_=>false) (c.args.map ρr)).run P w:=by
 simp[resolve,hb,invoke]
 rfl
set_option maxHeartbeats 1000000 in
theorem nilB_vr{ρ:Nms}{d:TypeDesc}{a b a' b':Value}(hn:nilB d a b=true)(ha:VR ρ a a')(hb:VR ρ b b'):nilB d a' b'=true:=by
 unfold nilB at hn
 split at hn
 all_goals first|(cases hn;done)|skip
 all_goals cases ha<;>cases hb<;>first|rfl|(rename_i h1 h2;first|(cases h1;done)|(cases h2;done))|(rename_i h1;cases h1;done)
theorem nilB_run{t:TypeId}{d:TypeDesc}{a b:Value}(ht:P.underlying t=some d)(hn:nilB d a b=true)(w:World):(Op.equal t a b).run P w=.ok false w∧∀(op:BinOp) (x y:Operand),(eqGuard op t x y a b).run P w=.ok () w:=by
 have hu:(underlying t).run P w=.ok d w:=by simp[underlying,ht]
 have he:∀a b,Op.equal t a b=Op.equalIn (9999+1) t a b:=fun _ _=>rfl
 unfold nilB at hn
 split at hn
 all_goals first|(cases hn;done)|skip
 all_goals refine⟨by rw[he];unfold Op.equalIn;simp[hu],fun op x y=>?_⟩
 all_goals cases op<;>simp[eqGuard]
theorem nilB_eql{t:TypeId}{d:TypeDesc}{a b:Value}(hn:nilB d a b=true):binOp .eql t a b=(do pure (.bool (← Op.equal t a b))):=by
 unfold nilB at hn
 split at hn
 all_goals first|(cases hn;done)|rfl
theorem nilB_neq{t:TypeId}{d:TypeDesc}{a b:Value}(hn:nilB d a b=true):binOp .neq t a b=(do pure (.bool (!(← Op.equal t a b)))):=by
 unfold nilB at hn
 split at hn
 all_goals first|(cases hn;done)|rfl
theorem fast0_ok{op:BinOp}{a b v:Value}(h:fast0 op a b=some v):flat a=true∧flat b=true∧flat v=true∧∀{P:Program} (t:TypeId) (x y:Operand) (w:World),(eqGuard op t x y a b).run P w=.ok () w∧(binOp op t a b).run P w=.ok v w:=by
 unfold fast0 at h
 split at h
 case h_2=>cases h
 rename_i m n
 have hb:∀p q:Nat,Nat.beq p q=decide ((p:Int)=q):=fun p q=>by
  cases e:Nat.beq p q
  .have:=Nat.ne_of_beq_eq_false e;symm;simp;omega
  .have:=Nat.eq_of_beq_eq_true e;symm;simp;omega
 have hl:∀p q:Nat,Nat.ble p q=decide ((p:Int)≤q):=fun p q=>by
  cases e:Nat.ble p q
  .have:¬p≤q:=fun h1=>by rw[Nat.ble_eq_true_of_le h1] at e;cases e
   symm;simp;omega
  .have:=Nat.le_of_ble_eq_true e;symm;simp;omega
 have ht:∀p q:Nat,Nat.blt p q=decide ((p:Int)<q):=fun p q=>by
  cases e:Nat.blt p q
  .have:¬p<q:=fun h1=>by rw[←Nat.blt_eq] at h1;rw[h1] at e;cases e
   symm;simp;omega
  .rw[Nat.blt_eq] at e;symm;simp;omega
 split at h
 .split at h
  .rename_i hs
   rw[Nat.blt_eq] at hs
   cases h
   refine⟨rfl,rfl,rfl,fun t x y w=>⟨by simp[eqGuard],?_⟩⟩
   have:IntKind.i64.wrap ((m:Int)+n)=(m+n:Nat):=by rw[IntKind.wrap_i64];omega
   simp[binOp,Op.intArith,this]
  .cases h
 all_goals first
  |(cases h;done)
  |(cases h
    refine⟨rfl,rfl,rfl,fun t x y w=>⟨by simp[eqGuard],?_⟩⟩
    simp[binOp,Op.intCmp,hb,hl,ht,bne]
    try rfl)
theorem fast_ok{op:BinOp}{a b v:Value}(h:fastB op a b=some v):flat a=true∧flat b=true∧flat v=true∧∀{P:Program} (t:TypeId) (x y:Operand) (w:World),(eqGuard op t x y a b).run P w=.ok () w∧(binOp op t a b).run P w=.ok v w:=by
 unfold fastB at h
 split at h
 all_goals first|(cases h;done)|exact fast0_ok h
theorem pure_ok{o:Oper}{v:Value}(hE:Env ρ ρE ρr)(h:pureV P ρE o.op=some v)(w:World):∃v',(execOp ρr o).run P w=.ok (.value v') w∧VR ρ v v':=by
 unfold execOp
 cases hop:o.op<;>rw[hop] at h<;>simp only[pureV] at h<;>try (cases h;done)
 case move x=>exact⟨_,rfl,hE _ _ h⟩
 case assign x=>exact⟨_,rfl,hE _ _ h⟩
 case pick c a b=>
  split at h
  .rename_i hc;have:=(hE _ _ hc).inv_bool;exact⟨ρr a,by simp[this,asBool],hE _ _ h⟩
  .rename_i hc;have:=(hE _ _ hc).inv_bool;exact⟨ρr b,by simp[this,asBool],hE _ _ h⟩
  .cases h
 case nilCheck x=>
  split at h
  .rename_i a ha
   cases h
   obtain⟨a',e,har⟩:=(hE _ _ ha).inv_ptr
   exact⟨_,by simp[e],.ptr har⟩
  .cases h
 case fieldAddr t x f=>
  split at h
  .rename_i u hu
   obtain⟨r',h1,h2⟩:=field_ok h (hE _ _ hu) w
   exact⟨r',by simp[h1],h2⟩
  .cases h
 case indexAddr t x i=>
  split at h
  .rename_i u j hu hj
   obtain⟨r',h1,h2⟩:=index_ok h (hE _ _ hu) (hE _ _ hj) w
   exact⟨r',by simp[h1],h2⟩
  .cases h
 case slice t x lo hi mx=>
  split at h
  .rename_i u l m n hu hl hm hn
   obtain⟨r',h1,h2⟩:=slice_ok h (hE _ _ hu) (hE.opt hl) (hE.opt hm) (hE.opt hn) w
   exact⟨r',by simp[h1],h2⟩
  .cases h
 case field t x f=>
  split at h
  .rename_i fs cs ht hx
   split at h
   .rename_i g hg
    obtain⟨cs',e,hcs⟩:=(hE _ _ hx).inv_agg
    obtain⟨r',h1,h2⟩:=partV_ok h hcs w
    rw[nth_get] at hg
    have hg:fs[f]?=some g:=by simpa using hg
    exact⟨r',by simp[Instr.field,run_underlying ht,hg,e,asAgg,h1],h2⟩
   .cases h
  .cases h
 case index t x i=>
  split at h
  .rename_i n e cs k i ht hx hi
   split at h
   .rename_i m j hm hj
    obtain⟨cs',e1,hcs⟩:=(hE _ _ hx).inv_agg
    have e2:=(hE _ _ hi).inv_int
    obtain⟨r',h1,h2⟩:=partV_ok h hcs w
    obtain⟨rfl,hlt⟩:=small_eq hm
    exact⟨r',by simp[Instr.index,e2,asIntOf,run_underlying ht,e1,hlt,sizeOf,typeInfo,hj,h1],h2⟩
   .cases h
  .rename_i s k i ht hx hi
   have e1:=(hE _ _ hx).inv_string
   have e2:=(hE _ _ hi).inv_int
   obtain⟨hl,hf⟩:=flatO_eq h
   have hr:=look_run hl w
   exact⟨v,by simp[e1,e2,hr],flat_self hf⟩
  .cases h
 case extract x k=>
  split at h
  .rename_i vs hx
   obtain⟨vs',e,hvs⟩:=(hE _ _ hx).inv_tuple
   obtain⟨r',h1,h2⟩:=hvs.nth h
   exact⟨r',by simp[Instr.extract,e,h1],h2⟩
  .cases h
 case makeFunc fn a b=>
  split at h
  .rename_i a' b' ha hb hf
   cases h
   cases fn<;>simp at hf
   rename_i f
   exact⟨.func (.func f) (a.map ρr) (b.map ρr),by simp[Instr.makeFunc],by
    have h1:=hE.opts ha
    have h2:=hE.opts hb
    rw[←Array.toList_map] at h1 h2
    exact .func h1 h2⟩
  .cases h
 case build t ps=>
  split at h
  .rename_i vs z hvs hz
   obtain⟨hz1,hz2⟩:=zero_ok hz w
   have hzc:VRs ρ z.cells.toList z.cells.toList:=(flat_self hz2:VR ρ z z).cells
   have hps:=hE.opts hvs
   rw[List.map_map] at hps
   split at h
   .rename_i fs ht
    split at h
    .rename_i pl hpl
     split at h
     .rename_i cs hf
      cases h
      obtain⟨cs',h1,h2⟩:=fill_ok (fun i=>nth pl i) hps hzc hf
      refine⟨.agg cs',?_,.agg h2⟩
      have hp:=places_ok hpl w
      have hm:((fs.mapM fun f=>do pure (f.offset,←Go.sizeOf f.type):Sem (Array (Nat×Nat)))).run P w=.ok ⟨pl⟩ w:=by
       rw[Array.mapM_eq_mapM_toList]
       have e:(List.mapM (fun f=>do pure (f.offset,←Go.sizeOf f.type):Field→Sem (Nat×Nat)) fs.toList)=((fs.toList.map fun f=>(f.offset,f.type)).mapM fun f=>do pure (f.1,←Go.sizeOf f.2)):=by
        rw[List.mapM_map];rfl
       rw[e]
       simp at hp⊢
       rw[hp]
       rfl
      have e2:(fun i=>(⟨pl⟩:Array (Nat×Nat))[i]?)=fun i=>nth pl i:=by funext i;rw[nth_get];simp
      simp only[Instr.build,Sem.run_bind,hz1,Result.andThen_ok,run_underlying ht,hm,map_snd,e2]
      have h1':Instr.fill (fun i=>nth pl i) z.cells ((ps.toList.map (·.1)).zip (ps.toList.map (ρr ·.2)))=some cs':=h1
      simp[h1']
     .cases h
    .cases h
   .rename_i n e ht
    split at h
    .rename_i j hj
     split at h
     .rename_i cs hf
      cases h
      obtain⟨cs',h1,h2⟩:=fill_ok (fun i=>some (i*j.size,j.size)) hps hzc hf
      refine⟨.agg cs',?_,.agg h2⟩
      have h1':Instr.fill (fun i=>some (i*j.size,j.size)) z.cells ((ps.toList.map (·.1)).zip (ps.toList.map (ρr ·.2)))=some cs':=h1
      simp only[Instr.build,Sem.run_bind,hz1,Result.andThen_ok,run_underlying ht,map_snd,Go.sizeOf,typeInfo]
      simp[hj,h1']
     .cases h
    .cases h
   .cases h
  .cases h
 case call c=>
  split at h
  .rename_i n cap sl hc hx
   have hs:=hE.opts hx
   split at h
   .rename_i e ht
    cases h
    cases ha:c.argTypes[0]? with
    |none=>simp[ha] at ht
    |some t0=>
     simp only[ha] at ht
     obtain⟨y,hy1,hy2⟩:=hs.get (k:=0) rfl
     obtain⟨b',c',rfl,_⟩:=hy2.slice_len
     have hy:(c.args.map ρr)[0]?=some (.slice b' cap c'):=by simpa using hy1
     refine⟨.int .i64 cap,?_,.same rfl⟩
     have:=run_builtin (P:=P) (ρr:=ρr) (o:=o) hc w
     rw[this]
     simp[builtin,Builtin.len_,ha,hy,run_underlying ht,goInt]
   .cases h
  .rename_i bs n cap hc hx
   have hs:=hE.opts hx
   split at h
   .rename_i e hb ht
    cases h
    cases ha:c.argTypes[0]? with
    |none=>simp[ha] at ht
    |some t0=>
     simp only[ha] at ht
     obtain⟨y,hy1,hy2⟩:=hs.get (k:=0) rfl
     obtain⟨b',c',rfl,hcap⟩:=hy2.slice_len
     rw[Nat.blt_eq] at hb
     obtain rfl:=hcap hb
     have hy:(c.args.map ρr)[0]?=some (.slice b' n c'):=by simpa using hy1
     refine⟨.int .i64 c',?_,.same rfl⟩
     have:=run_builtin (P:=P) (ρr:=ρr) (o:=o) hc w
     rw[this]
     simp[builtin,Builtin.cap_,ha,hy,run_underlying ht,goInt]
   .cases h
  .rename_i x xs hc hx
   split at h
   .rename_i hf
    obtain⟨hl,hv⟩:=flatO_eq h
    have e:=flats_env hE hx hf
    have e':c.args.map ρr=⟨x::xs⟩:=by apply Array.ext';simpa using e
    refine⟨v,?_,flat_self hv⟩
    have hr:=look_run hl w
    rw[run_builtin (P:=P) (ρr:=ρr) (o:=o) hc w,e']
    have:(Builtin.min_ c.argTypes o.type ⟨x::xs⟩).run P w=.ok v w:=hr
    simp[builtin,this]
   .cases h
  .rename_i x xs hc hx
   split at h
   .rename_i hf
    obtain⟨hl,hv⟩:=flatO_eq h
    have e:=flats_env hE hx hf
    have e':c.args.map ρr=⟨x::xs⟩:=by apply Array.ext';simpa using e
    refine⟨v,?_,flat_self hv⟩
    have hr:=look_run hl w
    rw[run_builtin (P:=P) (ρr:=ρr) (o:=o) hc w,e']
    have:(Builtin.max_ c.argTypes o.type ⟨x::xs⟩).run P w=.ok v w:=hr
    simp[builtin,this]
   .cases h
  .cases h
 case binOp op t x y u=>
  split at h
  .rename_i a b ha hb
   split at h
   .rename_i v' hv
    cases h
    obtain⟨f1,f2,f3,f4⟩:=fast_ok hv
    have e1:=(hE _ _ ha).flat f1
    have e2:=(hE _ _ hb).flat f2
    obtain⟨g1,g2⟩:=f4 (P:=P) t x y w
    exact⟨v,by simp[e1,e2,g1,g2],flat_self f3⟩
   split at h
   .rename_i fa fb
    have e1:=(hE _ _ ha).flat fa
    have e2:=(hE _ _ hb).flat fb
    split at h
    .rename_i g hg
     obtain⟨hl,hv⟩:=flatO_eq h
     have h1:=look_run hg w
     have h2:=look_run hl w
     exact⟨v,by simp[e1,e2,h1,h2],flat_self hv⟩
    .cases h
   .split at h
    case h_2=>cases h
    rename_i d hd
    split at h
    case h_2=>cases h
    rename_i hn
    have hn:=nilB_vr hn (hE _ _ ha) (hE _ _ hb)
    obtain⟨g1,g2⟩:=nilB_run (P:=P) hd hn w
    split at h
    .cases h
     exact⟨.bool false,by simp[g1,g2,nilB_eql hn],.same rfl⟩
    .cases h
     exact⟨.bool true,by simp[g1,g2,nilB_neq hn],.same rfl⟩
    .cases h
  .cases h
 case unOp op t x=>
  split at h
  .rename_i a ha
   split at h
   .rename_i fa
    obtain⟨hl,hv⟩:=flatO_eq h
    have h1:=look_run hl w
    exact⟨v,by simp[(hE _ _ ha).flat fa,h1],flat_self hv⟩
   .cases h
  .cases h
 case convert s d x=>
  split at h
  .rename_i a ha
   split at h
   .rename_i fa
    obtain⟨hl,hv⟩:=flatO_eq h
    have h1:=look_run hl w
    exact⟨v,by simp[(hE _ _ ha).flat fa,h1],flat_self hv⟩
   .cases h
  .cases h
def upd(ρ:Nms)(b:Nat)(n:Nm):Nms:=fun c=>if c=b then n else ρ c
theorem upd_same(ρ:Nms)(b:Nat)(n:Nm):upd ρ b n b=n:=by simp[upd]
theorem upd_other(ρ:Nms){b c:Nat}(n:Nm)(h:c≠b):upd ρ b n c=ρ c:=by simp[upd,h]
theorem le_new{b:Nat}(h:ρ b=.unborn)(n:Nm):Le ρ (upd ρ b n):=fun c=>by
 by_cases e:c=b
 .subst e;exact .inl h
 .exact .inr (.inl (upd_other ρ n e))
theorem le_kill(b:Nat):Le ρ (upd ρ b .dead):=fun c=>by
 by_cases e:c=b
 .subst e;exact .inr (.inr (upd_same _ _ _))
 .exact .inr (.inl (upd_other ρ _ e))
theorem HR.lt{h:H}{w:World}(hr:HR ρ h w){b x k:Nat}{o:Ob}(hb:h.get b=some o)(e:ρ b=.at_ x k):x<w.heap.size:=by
 obtain⟨y,l,o',h1,h2,_⟩:=hr.ob b o hb
 rw[e] at h1;cases h1
 exact(Array.getElem?_eq_some_iff.1 h2).1
theorem new_ok{h h':H}{o:Ob}{r:Nat}(e:h.new o=some (r,h'))(hu:ρ r=.unborn){w w':World}{o':Obj}(hw:w'.heap=w.heap.push o')(hr:HR ρ h w)(k:Nat)(ho:OR (upd ρ r (.at_ w.heap.size k)) k o o'):Stp ρ h w (upd ρ r (.at_ w.heap.size k)) h' w'∧HR (upd ρ r (.at_ w.heap.size k)) h' w':=by
 obtain⟨e1,e2,e3,e4⟩:=H.get_new e
 have hlog:h'.log=r::h.log:=by
  unfold H.new at e
  split at e
  .cases e;rfl
  .cases e
 have hle:Le ρ (upd ρ r (.at_ w.heap.size k)):=le_new hu _
 refine⟨⟨hle,by omega,fun b hb hx=>?_,by rw[hw];simp,[r],by rw[hlog];rfl,fun x o hx _=>?_,fun b x m hb=>?_,fun b hb=>?_,fun b hb=>?_,fun b hb hn=>?_⟩,hr.tame.push hw ho.notNum,fun b ob hb=>?_,fun b c x k1 k2 hb hc h1 h2=>?_⟩
 .rw[upd_other]
  .exact hb
  .intro e;omega
 .rw[hw,Array.getElem?_push,if_neg]
  .exact hx
  .have:=(Array.getElem?_eq_some_iff.1 hx).1;omega
 .by_cases e5:b=r
  .subst e5;rw[upd_same] at hb;cases hb;exact .inr ⟨hu,.inl (Nat.le_refl _)⟩
  .rw[upd_other _ _ e5] at hb;exact .inl hb
 .rw[List.mem_singleton.1 hb];exact .inr (by omega)
 .rw[e4];rw[if_neg (by simpa using hb)]
 .rw[upd_other _ _ (by simpa using hb)]
 .rw[e4] at hb
  split at hb
  .rename_i eb
   cases hb;subst eb
   exact⟨_,k,o',upd_same _ _ _,by rw[hw];simp,ho⟩
  .rename_i eb
   obtain⟨x,l,o2,h1,h2,h3⟩:=hr.ob b ob hb
   refine⟨x,l,o2,by rw[upd_other _ _ eb];exact h1,?_,h3.mono hle⟩
   rw[hw,Array.getElem?_push,if_neg]
   .exact h2
   .have:=(Array.getElem?_eq_some_iff.1 h2).1;omega
 .rw[e4] at hb hc
  have low:∀d l,d≠r→(h.get d).isSome=true→upd ρ r (.at_ w.heap.size k) d=.at_ w.heap.size l→False:=fun d l hd hs hx=>by
   rw[upd_other _ _ hd] at hx
   obtain⟨od,hod⟩:=Option.isSome_iff_exists.1 hs
   have:=hr.lt hod hx
   omega
  by_cases eb:b=r<;>by_cases ec:c=r
  .rw[eb,ec]
  .rw[eb,upd_same] at h1;cases h1;rw[if_neg ec] at hc;exact(low c k2 ec hc h2).elim
  .rw[ec,upd_same] at h2;cases h2;rw[if_neg eb] at hb;exact(low b k1 eb hb h1).elim
  .rw[if_neg eb] at hb;rw[if_neg ec] at hc;rw[upd_other _ _ eb] at h1;rw[upd_other _ _ ec] at h2
   exact hr.inj b c x k1 k2 hb hc h1 h2
theorem put_ok{h:H}{o ob:Ob}{b x k:Nat}(hb:h.get b=some ob)(hx:ρ b=.at_ x k)(ht:b<top){w w':World}{o':Obj}(hsz:w'.heap.size=w.heap.size)(hw:w'.heap[x]?=some o')(hn:∀y,y≠x→w'.heap[y]?=w.heap[y]?)(hr:HR ρ h w)(ho:OR ρ k o o'):Stp ρ h w ρ (h.put b o) w'∧HR ρ (h.put b o) w':=by
 have hlive:∀c,((h.put b o).get c).isSome=true→(h.get c).isSome=true:=fun c hc=>by
  rw[H.get_put ht] at hc
  split at hc
  .rename_i e;rw[e,hb];rfl
  .exact hc
 refine⟨⟨.refl ρ,Nat.le_refl _,fun _ h _=>h,by omega,[b],rfl,fun y oy hy hm=>?_,fun _ _ _ h=>.inl h,fun c hc=>?_,fun c hc=>?_,fun _ _ _=>rfl⟩,hr.tame.set hw hn ho.notNum,fun c oc hc=>?_,fun c d y k1 k2 hc hd h1 h2=>hr.inj c d y k1 k2 (hlive c hc) (hlive d hd) h1 h2⟩
 .rw[hn y]
  .exact hy
  .rintro rfl;exact hm b k (by simp) hx
 .rw[List.mem_singleton.1 hc,hb];exact .inl rfl
 .rw[H.get_put ht,if_neg (by simpa using hc)]
 .rw[H.get_put ht] at hc
  split at hc
  .rename_i e;cases hc;subst e;exact⟨x,k,o',hx,hw,ho⟩
  .rename_i e
   obtain⟨y,l,o2,h1,h2,h3⟩:=hr.ob c oc hc
   refine⟨y,l,o2,h1,?_,h3⟩
   rw[hn y]
   .exact h2
   .rintro rfl
    exact e (hr.inj c b _ l k (by rw[hc];rfl) (by rw[hb];rfl) h1 hx)
theorem kill_ok{h:H}{ob:Ob}{b:Nat}(hb:h.get b=some ob)(ht:b<top){w:World}(hr:HR ρ h w):Stp ρ h w (upd ρ b .dead) (h.kill b) w∧HR (upd ρ b .dead) (h.kill b) w:=by
 have hu:ρ b≠.unborn:=by obtain⟨x,k,o',h1,_⟩:=hr.ob b ob hb;rw[h1];exact fun h=>by cases h
 have hlive:∀c,((h.kill b).get c).isSome=true→c≠b∧(h.get c).isSome=true:=fun c hc=>by
  rw[H.get_kill ht] at hc
  split at hc
  .cases hc
  .rename_i e;exact⟨e,hc⟩
 refine⟨⟨le_kill b,Nat.le_refl _,fun c hc _=>?_,Nat.le_refl _,[b],rfl,fun y oy hy _=>hy,fun c x k hc=>?_,fun c hc=>?_,fun c hc=>?_,fun c hc hn=>?_⟩,hr.tame,fun c oc hc=>?_,fun c d y k1 k2 hc hd h1 h2=>?_⟩
 .rw[upd_other]
  .exact hc
  .rintro rfl;exact hu hc
 .by_cases e:c=b
  .subst e;rw[upd_same] at hc;cases hc
  .rw[upd_other _ _ e] at hc;exact .inl hc
 .rw[List.mem_singleton.1 hc,hb];exact .inl rfl
 .rw[H.get_kill ht,if_neg (by simpa using hc)]
 .rw[upd_other _ _ (by simpa using hc)]
 .rw[H.get_kill ht] at hc
  split at hc
  .cases hc
  .rename_i e
   obtain⟨y,l,o2,h1,h2,h3⟩:=hr.ob c oc hc
   exact⟨y,l,o2,by rw[upd_other _ _ e];exact h1,h2,h3.mono (le_kill b)⟩
 .obtain⟨e1,h3⟩:=hlive c hc
  obtain⟨e2,h4⟩:=hlive d hd
  rw[upd_other _ _ e1] at h1
  rw[upd_other _ _ e2] at h2
  exact hr.inj c d y k1 k2 h3 h4 h1 h2
theorem turn_ok{h h':H}{o ob:Ob}{b r x k:Nat}(hb:h.get b=some ob)(hx:ρ b=.at_ x k)(ht:b<top)(e:(h.kill b).new o=some (r,h'))(hu:ρ r=.unborn){w w':World}{o':Obj}(hsz:w'.heap.size=w.heap.size)(hw:w'.heap[x]?=some o')(hn:∀y,y≠x→w'.heap[y]?=w.heap[y]?)(hr:HR ρ h w)(ho:OR (upd (upd ρ b .dead) r (.at_ x k)) k o o'):Stp ρ h w (upd (upd ρ b .dead) r (.at_ x k)) h' w'∧HR (upd (upd ρ b .dead) r (.at_ x k)) h' w':=by
 obtain⟨e1,e2,e3,e4⟩:=H.get_new e
 have hlog:h'.log=r::b::h.log:=by
  unfold H.new at e
  split at e
  .cases e;rfl
  .cases e
 have hrb:r≠b:=by rintro rfl;rw[hx] at hu;cases hu
 have hnext:r=h.next∧h'.next=h.next+1:=⟨e1,e3⟩
 have hle:Le ρ (upd (upd ρ b .dead) r (.at_ x k)):=(le_kill b).trans (le_new (by rw[upd_other _ _ hrb];exact hu) _)
 have get':∀c,h'.get c=if c=r then some o else if c=b then none else h.get c:=fun c=>by
  rw[e4]
  split
  .rfl
  .rw[H.get_kill ht]
 have name:∀c,c≠r→c≠b→upd (upd ρ b .dead) r (.at_ x k) c=ρ c:=fun c h1 h2=>by rw[upd_other _ _ h1,upd_other _ _ h2]
 refine⟨⟨hle,by omega,fun c hc hcx=>?_,by omega,[r,b],by rw[hlog];rfl,fun y oy hy hm=>?_,fun c y m hc=>?_,fun c hc=>?_,fun c hc=>?_,fun c hc hn=>?_⟩,hr.tame.set hw hn ho.notNum,fun c oc hc=>?_,fun c d y k1 k2 hc hd h1 h2=>?_⟩
 .rw[name c (by omega) (by rintro rfl;rw[hx] at hc;cases hc)];exact hc
 .rw[hn y]
  .exact hy
  .rintro rfl;exact hm b k (by simp) hx
 .by_cases h1:c=r
  .subst h1
   rw[upd_same] at hc;cases hc
   exact .inr ⟨hu,.inr ⟨b,k,by simp,hx⟩⟩
  .by_cases h2:c=b
   .subst h2;rw[upd_other _ _ h1,upd_same] at hc;cases hc
   .rw[name c h1 h2] at hc;exact .inl hc
 .rcases List.mem_cons.1 hc with rfl|hc
  .exact .inr (by omega)
  .rw[List.mem_singleton.1 hc,hb];exact .inl rfl
 .simp only[List.mem_cons,List.not_mem_nil,or_false,not_or] at hc
  rw[get',if_neg hc.1,if_neg hc.2]
 .simp only[List.mem_cons,List.not_mem_nil,or_false,not_or] at hc
  exact name c hc.1 hc.2
 .rw[get'] at hc
  split at hc
  .rename_i h1;cases hc;subst h1;exact⟨x,k,o',upd_same _ _ _,hw,ho⟩
  .split at hc
   .cases hc
   .rename_i h1 h2
    obtain⟨y,l,o2,h3,h4,h5⟩:=hr.ob c oc hc
    refine⟨y,l,o2,by rw[name c h1 h2];exact h3,?_,h5.mono hle⟩
    rw[hn y]
    .exact h4
    .rintro rfl
     exact h2 (hr.inj c b _ l k (by rw[hc];rfl) (by rw[hb];rfl) h3 hx)
 .have one:∀f y l,(h'.get f).isSome=true→upd (upd ρ b .dead) r (.at_ x k) f=.at_ y l→(f=r∧y=x)∨(f≠r∧f≠b∧(h.get f).isSome=true∧ρ f=.at_ y l):=fun f y l hf he=>by
   rw[get'] at hf
   split at hf
   .rename_i h3;subst h3;rw[upd_same] at he;cases he;exact .inl ⟨rfl,rfl⟩
   .split at hf
    .cases hf
    .rename_i h3 h4;rw[name f h3 h4] at he;exact .inr ⟨h3,h4,hf,he⟩
  rcases one c y k1 hc h1 with⟨rfl,rfl⟩|⟨c1,c2,c3,c4⟩<;>rcases one d y k2 hd h2 with⟨rfl,hy⟩|⟨d1,d2,d3,d4⟩
  .rfl
  .exact absurd (hr.inj d b _ k2 k d3 (by rw[hb];rfl) d4 hx) d2
  .subst hy;exact absurd (hr.inj c b _ k1 k c3 (by rw[hb];rfl) c4 hx) c2
  .exact hr.inj c d y k1 k2 c3 d3 c4 d4
theorem row_of{h:H}{w:World}(hr:HR ρ h w){b b':Nat}{c:List Value}{e:TypeId}{s:Option Nat}(hb:h.get b=some (.cells c e s))(hB:BR ρ b b'):∃k d r,ρ b=.at_ b' k∧w.heap[b']?=some (.cells ⟨d++r⟩ e (0,0))∧VRs ρ c d∧(s=none→r=[])∧(∀z,s=some z→(d++r).length=k*z∧k≤maxLen∧0<z∧∀x∈r,atom x=true):=by
 obtain⟨x,k,o',h1,h2,d,r,rfl,h3,h4,h5⟩:=hr.ob b _ hb
 obtain rfl:=hB.at_ h1
 exact⟨k,d,r,h1,h2,h3,h4,h5⟩
theorem loads_ok{h:H}{w:World}(hr:HR ρ h w){a a':Addr}(ha:AR ρ a a'){n:Nat}{cs:List Value}(e:loads h a n=some cs):∃cs',VRs ρ cs cs'∧cs'.length=n∧∀j v,cs'[j]?=some v→w.cell? (a'.add j)=some v:=by
 unfold loads at e
 split at e
 .rename_i c t s hs hb
  obtain⟨k,d,r,h1,h2,h3,_⟩:=row_of hr hb ha.block
  obtain⟨rfl,hl⟩:=cut_eq e
  refine⟨(d.drop a.off).take n,(h3.drop _).take _,?_,fun j v hj=>?_⟩
  .have:=h3.length
   rw[List.length_take,List.length_drop,this]
   omega
  .rw[add_plain ha.spot']
   have hj':d[a'.off+j]?=some v:=by
    rw[List.getElem?_take] at hj
    split at hj
    .rw[List.getElem?_drop] at hj;rw[ha.off];exact hj
    .cases hj
   have hlt:a'.off+j<d.length:=(List.getElem?_eq_some_iff.1 hj').1
   simp[World.cell?,h2,List.getElem?_append_left hlt,hj']
 .rename_i c t hs hb
  obtain⟨x,k,o',h1,h2,d,r,fz,rfl,h3⟩:=hr.ob a.block _ hb
  have hB:=ha.block
  obtain hx:=hB.at_ h1
  rw[←hx] at h2
  obtain⟨rfl,hl⟩:=cut_eq e
  refine⟨(d.drop a.off).take n,(h3.drop _).take _,?_,fun j v hj=>?_⟩
  .have:=h3.length
   rw[List.length_take,List.length_drop,this]
   omega
  .rw[add_plain ha.spot']
   have hj':d[a'.off+j]?=some v:=by
    rw[List.getElem?_take] at hj
    split at hj
    .rw[List.getElem?_drop] at hj;rw[ha.off];exact hj
    .cases hj
   have hlt:a'.off+j<d.length:=(List.getElem?_eq_some_iff.1 hj').1
   simp[World.cell?,h2,List.getElem?_append_left hlt,hj']
 .rename_i c q t z hs hb
  obtain⟨x,k,o',h1,h2,p,d,d2,r,_,rfl,h3,_⟩:=hr.ob a.block _ hb
  have hB:=ha.block
  obtain hx:=hB.at_ h1
  rw[←hx] at h2
  obtain⟨rfl,hl⟩:=cut_eq e
  refine⟨(d.drop a.off).take n,(h3.drop _).take _,?_,fun j v hj=>?_⟩
  .have:=h3.length
   rw[List.length_take,List.length_drop,this]
   omega
  .rw[add_plain ha.spot']
   have hj':d[a'.off+j]?=some v:=by
    rw[List.getElem?_take] at hj
    split at hj
    .rw[List.getElem?_drop] at hj;rw[ha.off];exact hj
    .cases hj
   have hlt:a'.off+j<d.length:=(List.getElem?_eq_some_iff.1 hj').1
   simp[World.cell?,h2,List.getElem?_append_left hlt,hj']
 .cases e
theorem stores_ok{h h':H}{w:World}(hr:HR ρ h w){a a':Addr}(ha:AR ρ a a'){vs vs':List Value}(hv:VRs ρ vs vs')(e:stores h a vs=some h'):∃w',(storeCells a' vs').run P w=.ok () w'∧Stp ρ h w ρ h' w'∧HR ρ h' w':=by
 unfold stores at e
 split at e
 .rename_i c t s hs hb h1 h2
  split at e
  .rename_i c' hc
   cases e
   obtain⟨rfl,hl⟩:=over_eq hc
   obtain⟨k,d,r,q1,q2,q3,q4,q5⟩:=row_of hr hb ha.block
   have hs1:=hv.single h1
   have hlen:=hv.length
   have hdl:=q3.length
   obtain⟨g,o,sp⟩:=a'
   have hsp:=ha.spot'
   have hoff:=ha.off
   simp only at hsp hoff q1 q2
   subst hsp
   subst hoff
   by_cases hnil:vs=[]
   .subst hnil
    cases hv
    refine⟨w,rfl,?_⟩
    rw[Nat.blt_eq] at h2
    refine put_ok hb q1 h2 rfl q2 (fun _ _=>rfl) hr ⟨d,r,rfl,?_,q4,q5⟩
    simpa using q3
   have hl:a.off+vs.length≤c.length:=hl.resolve_left hnil
   have hrun:=run_storeCells_at P g a.off t vs' 0 ⟨d++r⟩ w q2 (by simp;omega) (fun v hv'=>by rw[single_one];exact List.all_eq_true.1 hs1 v hv')
   refine⟨_,hrun,?_⟩
   rw[Nat.blt_eq] at h2
   have e1:(⟨d++r⟩:Array Value).toList=d++r:=rfl
   have e2:(d++r).take (a.off+0)++vs'++(d++r).drop (a.off+0+vs'.length)=(d.take a.off++vs'++d.drop (a.off+vs'.length))++r:=by
    rw[Nat.add_zero,List.take_append_of_le_length (by omega),List.drop_append_of_le_length (by omega)]
    simp
   refine put_ok hb q1 h2 (by simp[World.setRow]) (o':=.cells ⟨(d.take a.off++vs'++d.drop (a.off+vs'.length))++r⟩ t (0,0)) ?_ (fun y hy=>setRow_other w g y _ hy) hr ⟨_,r,rfl,?_,q4,?_⟩
   .rw[setRow_heap w g _ _ t (0,0) q2,e1,e2]
   .rw[←hlen]
    exact((q3.take _).append hv).append (q3.drop _)
   .intro z hz
    obtain⟨z1,z2,z3⟩:=q5 z hz
    refine⟨?_,z2,z3⟩
    rw[←z1]
    simp
    omega
  .cases e
 .rename_i c q t z hs hb h1 h2
  split at e
  .rename_i c' hc
   cases e
   obtain⟨rfl,hl⟩:=over_eq hc
   obtain⟨x0,k,o',q1,q2,p,d,d2,r,hp,rfl,q3,q4,q5,q6,q7⟩:=hr.ob a.block _ hb
   have hs1:=hv.single h1
   have hlen:=hv.length
   have hdl:=q3.length
   obtain⟨g,o,sp⟩:=a'
   have hsp:=ha.spot'
   have hoff:=ha.off
   have hB:g=x0:=ha.block.at_ q1
   simp only at hsp hoff
   subst hsp
   subst hoff
   subst hB
   by_cases hnil:vs=[]
   .subst hnil
    cases hv
    refine⟨w,rfl,?_⟩
    rw[Nat.blt_eq] at h2
    refine put_ok hb q1 h2 rfl q2 (fun _ _=>rfl) hr ⟨p,d,d2,r,hp,rfl,?_,q4,q5,q6,q7⟩
    simpa using q3
   have hl:a.off+vs.length≤c.length:=hl.resolve_left hnil
   have hrun:=run_storeCells_at P g a.off t vs' 0 ⟨d++(d2++r)⟩ w q2 (by simp;omega) (fun v hv'=>by rw[single_one];exact List.all_eq_true.1 hs1 v hv')
   refine⟨_,hrun,?_⟩
   rw[Nat.blt_eq] at h2
   have e1:(⟨d++(d2++r)⟩:Array Value).toList=d++(d2++r):=rfl
   have e2:(d++(d2++r)).take (a.off+0)++vs'++(d++(d2++r)).drop (a.off+0+vs'.length)=(d.take a.off++vs'++d.drop (a.off+vs'.length))++(d2++r):=by
    rw[Nat.add_zero,List.take_append_of_le_length (by omega),List.drop_append_of_le_length (by omega)]
    simp
   refine put_ok hb q1 h2 (by simp[World.setRow]) (o':=.cells ⟨(d.take a.off++vs'++d.drop (a.off+vs'.length))++(d2++r)⟩ t (0,0)) ?_ (fun y hy=>setRow_other w g y _ hy) hr ⟨p,_,d2,r,hp,rfl,?_,q4,?_,q6,q7⟩
   .rw[setRow_heap w g _ _ t (0,0) q2,e1,e2]
   .rw[←hlen]
    exact((q3.take _).append hv).append (q3.drop _)
   .rw[←q5]
    simp
    omega
  .cases e
 .cases e
end
section
variable{P:Program}{ρ:Nms}{ρE:Operand→Option Value}{ρr:Operand→Value}
theorem loadV_ok{h:H}{w:World}(hr:HR ρ h w){t:TypeId}{a a':Addr}(ha:AR ρ a a'){v:Value}(e:loadV P h t a=some v):∃v',(loadVar t a').run P w=.ok v' w∧VR ρ v v':=by
 unfold loadV at e
 split at e
 .rename_i d i ht hi
  split at e
  .rename_i hd
   split at e
   .rename_i cs hl
    cases e
    obtain⟨cs',h1,h2,h3⟩:=loads_ok hr ha hl
    refine⟨.agg ⟨cs'⟩,?_,.agg h1⟩
    have:=run_loadCells_list (P:=P) w a' cs' h3
    rw[h2] at this
    simp[loadVar,agg_run ht,hd,Go.sizeOf,typeInfo,hi,this]
   .cases e
  .rename_i hd
   split at e
   .rename_i u hl
    cases e
    obtain⟨cs',h1,h2,h3⟩:=loads_ok hr ha hl
    cases h1 with
    |cons hv hs=>
     cases hs
     rename_i v'
     refine⟨v',?_,hv⟩
     have h4:w.cell? a'=some v':=by
      have:=h3 0 v' rfl
      rwa[add_plain ha.spot',Nat.add_zero,show(⟨a'.block,a'.off,none⟩:Addr)=a' from by rw[←ha.spot']] at this
     simp[loadVar,agg_run ht,hd,load,Sem.run,h4]
   .cases e
 .cases e
theorem storeV_ok{h h':H}{w:World}(hr:HR ρ h w){t:TypeId}{a a':Addr}(ha:AR ρ a a'){v v':Value}(hv:VR ρ v v')(e:storeV P h t a v=some h'):∃w',(storeVar t a' v').run P w=.ok () w'∧Stp ρ h w ρ h' w'∧HR ρ h' w':=by
 unfold storeV at e
 split at e
 .rename_i i hi
  split at e
  .rename_i hs
   obtain⟨w',h1,h2,h3⟩:=stores_ok (P:=P) hr ha hv.cells e
   refine⟨w',?_,h2,h3⟩
   have hl:=hv.cells.length
   have hs:=Nat.eq_of_beq_eq_true hs
   have he:v'.cells.size=i.size:=by rw[←hs,←hl];simp
   simp[storeVar,Go.sizeOf,typeInfo,hi,he,h1]
  .cases e
 .cases e
theorem grown_or{ρ:Nms}{k:Nat}{c d:List Value}{e:TypeId}{z:Nat}{rest:List Value}(hv:VRs ρ c d)(hl:(d++rest).length=k*z)(hk:k≤maxLen)(hz:0<z)(ha:∀x∈rest,atom x=true):OR ρ k (.cells c e (some z)) (.cells (d++rest).toArray e (0,0)):=
 ⟨d,rest,rfl,hv,fun h=>(by cases h),fun y hy=>(by cases hy;exact⟨hl,hk,hz,ha⟩)⟩
theorem room_ok{i:TypeInfo}{z:Value}{k:Nat}(h:roomB i z k=true):k<1000000∧i.bytes<1000000∧0<i.size∧z.cells.size=i.size∧∀x∈z.cells.toList,atom x=true:=by
 unfold roomB at h
 split at h
 .rename_i h1 h2 h3
  rw[Nat.blt_eq] at h1 h2
  rw[Bool.and_eq_true] at h
  have h4:=Nat.eq_of_beq_eq_true h.1
  have h5:i.size≠0:=fun e=>by rw[e] at h3;cases h3
  exact⟨h1,h2,by omega,by rw[←h4];simp,fun x hx=>List.all_eq_true.1 h.2 x hx⟩
 .cases h
theorem info_zero{t:TypeId}{z:Value}{i:TypeInfo}(h:zeroOf P t=some z)(hi:P.info? t=some i):i.zero=some z:=by
 unfold zeroOf at h
 rw[hi] at h
 simp only at h
 split at h
 .rename_i z' hz
  split at h
  .cases h;exact hz
  .cases h
 .cases h
theorem repeat_atom{z:Value}(hz:z.cells.size≠0)(h:∀x∈z.cells.toList,atom x=true)(n:Nat):∀x∈(Builtin.zeroCells z.cells n).toList,atom x=true:=fun x hx=>by
 have hx:=Array.mem_toList_iff.1 hx
 unfold Builtin.zeroCells at hx
 rw[Array.mem_map] at hx
 obtain⟨i,_,rfl⟩:=hx
 have hlt:i % z.cells.size<z.cells.size:=Nat.mod_lt _ (Nat.pos_of_ne_zero hz)
 rw[show z.cells[i % z.cells.size]! = z.cells[i % z.cells.size] from getElem!_pos z.cells _ hlt]
 exact h _ (by simp)
theorem repeat_len(z:Value)(n:Nat):(Builtin.zeroCells z.cells n).toList.length=n*z.cells.size:=by
 have:=size_zeroCells z.cells n
 simpa using this
set_option maxHeartbeats 1000000 in
theorem append_ok{h h':H}{w:World}(hr:HR ρ h w){t ty:TypeId}{s s' x x' v:Value}(hs:VR ρ s s')(hx:VR ρ x x')(e:appendV P h t s x=some (v,h'))(hu:∀b,h.next≤b→b<h'.next→ρ b=.unborn):∃v' w' ρ',(Builtin.append_ #[t,t] ty #[s',x']).run P w=.ok v' w'∧Stp ρ h w ρ' h' w'∧HR ρ' h' w'∧VR ρ' v v':=by
 unfold appendV at e
 split at e
 .
  rename_i el base n cap xb xc ht
  split at e
  .rename_i i hle hi
   cases e
   obtain⟨b',c',rfl,hc⟩:=hs.slice_len
   obtain⟨xb',xc',rfl,_⟩:=hx.slice_len
   have hle:=Nat.le_of_ble_eq_true hle
   have hn:n≤c':=by
    cases base with
    |none=>have:=hs.inv_nilslice;cases this;exact hle
    |some a=>
     obtain⟨a',c'',e1,_,hcr⟩:=hs.inv_slice
     cases e1
     rcases hcr with⟨_,rfl⟩|⟨_,h2,_⟩
     .exact hle
     .exact h2
   refine⟨.slice b' n c',w,ρ,?_,.refl ρ h w w rfl,hr,hs⟩
   have hf:(Builtin.firstCells i.size 0 (.slice xb' 0 xc')).run P w=.ok #[] w:=by
    cases xb' with
    |none=>exact run_firstCells_none w i.size 0 0 xc'
    |some xa=>exact run_firstCells_some (P:=P) w i.size 0 xa 0 xc' [] (by simp) (fun j v hj=>by simp at hj)
   cases b'<;>simp[Builtin.append_,run_underlying ht,Go.sizeOf,typeInfo,hi,Builtin.lenOf,hn,hf,storeCells]
  .cases e
 .rename_i el base n cap xb m xc hm ht
  split at e
  .rename_i i z hi hz
   split at e
   .rename_i new hld hroom
    obtain⟨r1,r2,r3,r4,r5⟩:=room_ok hroom
    have r6:=repeat_atom (z:=z) (by rw[r4];omega) r5
    split at e
    .rename_i hsingle
     obtain⟨xa',xc',rfl,hxa,_⟩:=hx.inv_slice
     obtain⟨new',n1,n2,n3⟩:=loads_ok hr hxa hld
     have hone:∀u∈new',u.oneCell'=true:=fun u hu'=>by rw[single_one];exact List.all_eq_true.1 (n1.single hsingle) u hu'
     have hiz:=info_zero hz hi
     have hm0:0<m:=Nat.pos_of_ne_zero (fun e0=>hm (by rw[e0]))
     have hbound:(n+m)*i.bytes≤140737488355328:=by
      have h1:(n+m)*i.bytes≤1000000*1000000:=Nat.mul_le_mul (by omega) (by omega)
      omega
     split at e
     .
      split at e
      .split at e
       .rename_i r h1 hnew
        cases e
        obtain rfl:=hs.inv_nilslice
        have hrun:=run_append_nil (P:=P) w t ty el i z ht hi hiz xa' m xc' new' n2 n3 hm0 (by omega) (by simp only[Nat.zero_add] at hbound;omega)
        obtain⟨q1,q2,q3,q4⟩:=H.get_new hnew
        have hge:=grownCap_ge w m 0 el
        have hcm:=grownCap_le_maxLen w m 0 el (by unfold maxLen;omega)
        have hor:∀ρ1:Nms,Le ρ ρ1→OR ρ1 (grownCap w m 0 el) (.cells new el (some i.size)) (.cells (new'.toArray++Builtin.zeroCells z.cells (grownCap w m 0 el-m)) el):=fun ρ1 hle=>by
         have:=grown_or (e:=el) (rest:=(Builtin.zeroCells z.cells (grownCap w m 0 el-m)).toList) (n1.mono hle) (by
          rw[List.length_append,repeat_len,n2,r4,←Nat.add_mul];congr 1;omega) hcm r3 (r6 _)
         have e1:new'.toArray++Builtin.zeroCells z.cells (grownCap w m 0 el-m)=(new'++(Builtin.zeroCells z.cells (grownCap w m 0 el-m)).toList).toArray:=by apply Array.ext';simp
         rw[e1];exact this
        have hur:=hu r (by omega) (by omega)
        obtain⟨s1,s2⟩:=new_ok hnew hur (w:=w) (w':=w.drew.alloc (.cells (new'.toArray++Builtin.zeroCells z.cells (grownCap w m 0 el-m)) el)) rfl hr (grownCap w m 0 el) (hor _ (le_new hur _))
        refine⟨_,_,_,hrun,s1,s2,.slice ⟨by show BR _ r _;unfold BR;rw[upd_same],rfl,rfl,rfl⟩ (.inr ⟨Nat.le_refl _,hge,fun x k hk=>?_⟩)⟩
        have hk':upd ρ r (.at_ w.heap.size (grownCap w m 0 el)) r=.at_ x k:=hk
        rw[upd_same] at hk';cases hk';rfl
       .cases e
      .cases e
     .rename_i a
      obtain⟨a',c',rfl,ha,hcr⟩:=hs.inv_slice
      split at e
      .
       rename_i hlt
       rw[Nat.blt_eq] at hlt
       obtain rfl:c'=cap:=by rcases hcr with hc|hc<;>omega
       split at e
       .rename_i hroomy
        have hroomy:=Nat.le_of_ble_eq_true hroomy
        split at e
        .rename_i a1 hpa
         split at e
         .rename_i h1 hst
          cases e
          obtain⟨rfl,_⟩:=plainAddr_eq hpa
          have haa:=ha.add (n*i.size)
          obtain⟨w',t1,t2,t3⟩:=stores_ok (P:=P) hr haa n1 hst
          refine⟨.slice (some a') (n+m) c',w',ρ,?_,t2,t3,.slice ha (.inl ⟨hlt,rfl⟩)⟩
          have hf:=run_firstCells_some (P:=P) w i.size m xa' m xc' new' n2 n3
          simp[Builtin.append_,run_underlying ht,Go.sizeOf,typeInfo,hi,Builtin.lenOf,hroomy,hf,t1]
         .cases e
        .cases e
       .rename_i hfull
        have hfull:c'<n+m:=by
         cases hb:Nat.ble (n+m) c'
         .by_cases hle:n+m≤c'
          .rw[Nat.ble_eq_true_of_le hle] at hb;cases hb
          .omega
         .rw[hb] at hfull;cases hfull
        split at e
        .rename_i old hold
         split at e
         .rename_i r h1 hnew
          cases e
          obtain⟨old',o1,o2,o3⟩:=loads_ok hr ha hold
          have hrun:=run_append_grow (P:=P) w t ty el i z ht hi hiz a' n c' old' o2 o3 xa' m xc' new' n2 n3 hfull (by omega) (growslice_fits hfull hbound)
          obtain⟨q1,q2,q3,q4⟩:=H.get_new hnew
          have hge:=grownCap_ge w (n+m) c' el
          have hcm:=grownCap_le_maxLen w (n+m) c' el (by unfold maxLen;omega)
          have hor:∀ρ1:Nms,Le ρ ρ1→OR ρ1 (grownCap w (n+m) c' el) (.cells (old++new) el (some i.size)) (.cells (old'.toArray++new'.toArray++Builtin.zeroCells z.cells (grownCap w (n+m) c' el-(n+m))) el):=fun ρ1 hle=>by
           have:=grown_or (e:=el) (rest:=(Builtin.zeroCells z.cells (grownCap w (n+m) c' el-(n+m))).toList) ((o1.append n1).mono hle) (by
            rw[List.length_append,List.length_append,repeat_len,n2,o2,r4,←Nat.add_mul,←Nat.add_mul];congr 1;omega) hcm r3 (r6 _)
           have e1:old'.toArray++new'.toArray++Builtin.zeroCells z.cells (grownCap w (n+m) c' el-(n+m))=(old'++new'++(Builtin.zeroCells z.cells (grownCap w (n+m) c' el-(n+m))).toList).toArray:=by apply Array.ext';simp
           rw[e1];exact this
          have hur:=hu r (by omega) (by omega)
          obtain⟨s1,s2⟩:=new_ok hnew hur (w:=w) (w':=w.drew.alloc (.cells (old'.toArray++new'.toArray++Builtin.zeroCells z.cells (grownCap w (n+m) c' el-(n+m))) el)) rfl hr (grownCap w (n+m) c' el) (hor _ (le_new hur _))
          refine⟨_,_,_,hrun,s1,s2,.slice ⟨by show BR _ r _;unfold BR;rw[upd_same],rfl,rfl,rfl⟩ (.inr ⟨Nat.le_refl _,hge,fun x k hk=>?_⟩)⟩
          have hk':upd ρ r (.at_ w.heap.size (grownCap w (n+m) c' el)) r=.at_ x k:=hk
          rw[upd_same] at hk';cases hk';rfl
         .cases e
        .cases e
      .
       rename_i hlt
       split at e
       .rename_i b
        split at e
        .rename_i c e' k hb htop
         split at e
         .rename_i hlen hk he
          split at e
          .rename_i r h1 hnew
           cases e
           have hlen:=Nat.eq_of_beq_eq_true hlen
           obtain rfl:=Nat.eq_of_beq_eq_true hk
           obtain rfl:=Nat.eq_of_beq_eq_true he
           rw[Nat.blt_eq] at htop
           obtain⟨kc,d,rest,k1,k2,k3,_,k5⟩:=row_of hr hb ha.block
           obtain⟨k6,k7,k8,k9⟩:=k5 _ rfl
           obtain⟨hn,hcap⟩:n≤c'∧∀x k,ρ b=.at_ x k→c'=k:=hcr.elim (fun hc=>by
            exfalso
            have:=hc.1
            rw[←Nat.blt_eq] at this
            rw[this] at hlt;cases hlt) (·.2)
           obtain rfl:=hcap _ _ k1
           have hdl:d.length=n*i.size:=by rw[k3.length];exact hlen
           obtain⟨g,off,sp⟩:=a'
           have hsp:=ha.spot'
           have hoff:=ha.off
           simp only at hsp hoff k1 k2
           subst hsp;subst hoff
           obtain⟨q1,q2,q3,q4⟩:=H.get_new hnew
           have hnx:(h.kill b).next=h.next:=rfl
           have hur:=hu r (by omega) (by omega)
           have hrb:r≠b:=by rintro rfl;rw[k1] at hur;cases hur
           have hcells:∀j v,d[j]?=some v→w.cell? ((⟨g,0,none⟩:Addr).add j)=some v:=fun j v hj=>by
            have hlt:j<d.length:=(List.getElem?_eq_some_iff.1 hj).1
            rw[add_plain rfl]
            simp[World.cell?,k2,List.getElem?_append_left hlt,hj]
           by_cases hroomy:n+m≤c'
           .have hfit:n*i.size+new'.length≤(⟨d++rest⟩:Array Value).size:=by
             show _≤(d++rest).length
             rw[n2,k6,←Nat.add_mul];exact Nat.mul_le_mul_right _ hroomy
            have hrun:=run_append_room (P:=P) w t ty _ i ht hi g n c' ⟨d++rest⟩ k2 xa' m xc' new' n2 n3 hone hroomy hfit
            have e1:(⟨d++rest⟩:Array Value).toList.take (n*i.size)++new'++(⟨d++rest⟩:Array Value).toList.drop (n*i.size+new'.length)=(d++new')++(d++rest).drop (n*i.size+new'.length):=by
             show(d++rest).take _++_++_=_
             rw[←hdl,List.take_left]
            obtain⟨s1,s2⟩:=turn_ok hb k1 htop hnew hur (w:=w) (w':=w.setRow g ((⟨d++rest⟩:Array Value).toList.take (n*i.size)++new'++(⟨d++rest⟩:Array Value).toList.drop (n*i.size+new'.length)).toArray)
             (by simp[World.setRow]) (setRow_heap w g _ _ _ (0,0) k2) (fun y hy=>setRow_other w g y _ hy) hr (by
              rw[e1]
              have hle:Le ρ (upd (upd ρ b .dead) r (.at_ g c')):=(le_kill b).trans (le_new (by rw[upd_other _ _ hrb];exact hur) _)
              refine grown_or ((k3.append n1).mono hle) ?_ k7 k8 (fun y hy=>?_)
              rotate_left
              .have hy1:=List.mem_of_mem_drop (i:=new'.length) (l:=(d++rest).drop (n*i.size)) (by rw[List.drop_drop];exact hy)
               rw[←hdl,List.drop_left] at hy1
               exact k9 y hy1
              rw[←k6,←hdl]
              simp
              have:(d++rest).length=d.length+rest.length:=by simp
              have h9:d.length+new'.length≤(d++rest).length:=by rw[hdl];exact hfit
              omega)
            refine⟨_,_,_,hrun,s1,s2,.slice ⟨by show BR _ r _;unfold BR;rw[upd_same],rfl,rfl,rfl⟩ (.inr ⟨Nat.le_refl _,hroomy,fun x k hk=>?_⟩)⟩
            have hk':upd (upd ρ b .dead) r (.at_ g c') r=.at_ x k:=hk
            rw[upd_same] at hk';cases hk';rfl
           .have hfull:c'<n+m:=by omega
            have hrun:=run_append_grow (P:=P) w t ty _ i z ht hi hiz ⟨g,0,none⟩ n c' d hdl hcells xa' m xc' new' n2 n3 hfull (by omega) (growslice_fits hfull hbound)
            obtain⟨s1,s2⟩:=kill_ok hb htop hr
            have hge:=grownCap_ge w (n+m) c' e'
            have hcm:=grownCap_le_maxLen w (n+m) c' e' (by unfold maxLen;omega)
            have hur':upd ρ b .dead r=.unborn:=by rw[upd_other _ _ hrb];exact hur
            obtain⟨s3,s4⟩:=new_ok hnew hur' (w:=w) (w':=w.drew.alloc (.cells (d.toArray++new'.toArray++Builtin.zeroCells z.cells (grownCap w (n+m) c' e'-(n+m))) e')) rfl s2 (grownCap w (n+m) c' e') (by
             have:=grown_or (e:=e') (rest:=(Builtin.zeroCells z.cells (grownCap w (n+m) c' e'-(n+m))).toList) ((k3.append n1).mono ((le_kill b).trans (le_new hur' (.at_ w.heap.size (grownCap w (n+m) c' e'))))) (by
              rw[List.length_append,List.length_append,repeat_len,n2,hdl,r4,←Nat.add_mul,←Nat.add_mul];congr 1;omega) hcm r3 (r6 _)
             have e1:d.toArray++new'.toArray++Builtin.zeroCells z.cells (grownCap w (n+m) c' e'-(n+m))=(d++new'++(Builtin.zeroCells z.cells (grownCap w (n+m) c' e'-(n+m))).toList).toArray:=by apply Array.ext';simp
             rw[e1];exact this)
            refine⟨_,_,_,hrun,s1.trans s3,s4,.slice ⟨by show BR _ r _;unfold BR;rw[upd_same],rfl,rfl,rfl⟩ (.inr ⟨Nat.le_refl _,hge,fun x k hk=>?_⟩)⟩
            have hk':upd (upd ρ b .dead) r (.at_ w.heap.size (grownCap w (n+m) c' e')) r=.at_ x k:=hk
            rw[upd_same] at hk';cases hk';rfl
          .cases e
         .cases e
        .cases e
       .cases e
    .cases e
   .cases e
  .cases e
 .cases e
theorem sack_ok{h h':H}{w:World}(hr:HR ρ h w){t ty:TypeId}{s s' x x' v:Value}(hs:VR ρ s s')(hx:VR ρ x x')(e:sackV P h t s x=some (v,h'))(hu:∀b,h.next≤b→b<h'.next→ρ b=.unborn):∃v' w' ρ',(Builtin.append_ #[t,t] ty #[s',x']).run P w=.ok v' w'∧Stp ρ h w ρ' h' w'∧HR ρ' h' w'∧VR ρ' v v':=by
 unfold sackV at e
 split at e
 case h_2=>cases e
 rename_i el b n cap xb xc ht
 split at e
 case h_2=>cases e
 rename_i c e' k i z hb hi hz
 split at e
 case h_2=>cases e
 rename_i new hl hc
 simp only[Bool.and_eq_true,Bool.not_eq_true'] at hc
 obtain⟨⟨⟨⟨⟨⟨⟨c1,c2⟩,c3⟩,c4⟩,c5⟩,c6⟩,c7⟩,c8⟩:=hc
 rw[Nat.blt_eq] at c2
 obtain rfl:=Nat.eq_of_beq_eq_true c4
 obtain rfl:=Nat.eq_of_beq_eq_true c6
 obtain rfl:=Nat.eq_of_beq_eq_true c7
 split at e
 case h_2=>cases e
 rename_i hsing
 split at e
 case h_2=>cases e
 rename_i r hh hnew
 cases e
 obtain⟨x0,k0,o',h1,h2,p,d,rr,hperm,rfl,hvs,hlen,hkm,hk0⟩:=hr.ob b _ hb
 let hq:H:=⟨T.put T.deep h.t b (some (.cells p.flatten e' (some i.size))),h.next,h.log⟩
 have getq:∀y,hq.get y=if y=b then some (.cells p.flatten e' (some i.size)) else h.get y:=fun y=>T.get_put _ _ _ _ _ (top_deep c2)
 have hrq:HR ρ hq w:=⟨hr.tame,fun y o hy=>by
  rw[getq] at hy
  split at hy
  .rename_i ey
   cases hy;subst ey
   exact⟨x0,k0,_,h1,h2,d,rr,rfl,hvs,(fun h=>by cases h),fun z hz=>by cases hz;exact⟨hlen,hkm,hk0⟩⟩
  .exact hr.ob y o hy,fun y y' x k l hy hy' hx hx'=>by
  have known:∀y,(hq.get y).isSome=true→(h.get y).isSome=true:=fun y hy=>by
   rw[getq] at hy
   split at hy
   .rename_i ey;rw[ey,hb];rfl
   .exact hy
  exact hr.inj y y' x k l (known y hy) (known y' hy') hx hx'⟩
 have hnx:h.next<top:=by
  unfold H.new at hnew
  split at hnew
  .rename_i hb2;rw[Nat.blt_eq] at hb2;exact hb2
  .cases hnew
 have hbn:b≠h.next:=fun e=>by
  have:=hu h.next (Nat.le_refl _) (by
   obtain⟨_,_,q3,_⟩:=H.get_new hnew
   have q3:h'.next=h.next+1:=q3
   omega)
  rw[←e,h1] at this;cases this
 have hbt:Nat.blt h.next top=true:=by rw[Nat.blt_eq];exact hnx
 obtain⟨rfl,rfl⟩:r=h.next∧h'=⟨T.put T.deep (T.put T.deep h.t b none) h.next (some (.sack (c++[new]) e' i.size)),h.next+1,h.next::b::h.log⟩:=by
  unfold H.new at hnew
  have e1:Nat.blt (h.kill b).next top=true:=hbt
  rw[e1] at hnew
  cases hnew
  exact⟨rfl,rfl⟩
 have hxb:xb.block≠b:=fun e=>by rw[e] at c8;simp at c8
 have hlq:loads hq xb (1*i.size)=some new:=by
  unfold loads at hl⊢
  rw[getq,if_neg hxb];exact hl
 have hgb:hq.get b=some (.cells p.flatten e' (some i.size)):=by rw[getq,if_pos rfl]
 have hcl:∀l∈c,l.length=i.size:=fun l hl=>Nat.eq_of_beq_eq_true (List.all_eq_true.1 c5 l hl)
 have hflat:∀l:List (List Value),(∀y∈l,y.length=i.size)→l.flatten.length=l.length*i.size:=fun l=>by
  induction l with
  |nil=>intro _;simp
  |cons y l ih=>intro hy;simp only[List.flatten_cons,List.length_append,List.length_cons];rw[hy y (by simp),ih fun z hz=>hy z (by simp[hz]),Nat.succ_mul,Nat.add_comm]
 have hpl:p.flatten.length=c.length*i.size:=by rw[hflat p fun y hy=>hcl y (hperm.mem_iff.2 hy),hperm.length_eq]
 have hA:appendV P hq t (.slice (some ⟨b,0,none⟩) c.length cap) (.slice (some xb) 1 xc)=some (.slice (some ⟨h.next,0,none⟩) (c.length+1) soft,⟨T.put T.deep (T.put T.deep hq.t b none) h.next (some (.cells (p.flatten++new) e' (some i.size))),h.next+1,h.next::b::h.log⟩):=by
  have b1:Nat.blt b top=true:=by rw[Nat.blt_eq];exact c2
  have b2:Nat.beq p.flatten.length (c.length*i.size)=true:=by rw[hpl];simp
  unfold appendV
  simp only[ht,hi,hz,hlq,c1,hsing,c3,hgb,b1,b2,Nat.beq_refl]
  unfold H.new
  have e1:Nat.blt (hq.kill b).next top=true:=hbt
  rw[e1]
  rfl
 obtain⟨v',w',ρ',r1,r2,r3,r4⟩:=append_ok (ty:=ty) hrq hs hx hA hu
 have getA:∀y,(⟨T.put T.deep (T.put T.deep hq.t b none) h.next (some (.cells (p.flatten++new) e' (some i.size))),h.next+1,h.next::b::h.log⟩:H).get y=if y=h.next then some (.cells (p.flatten++new) e' (some i.size)) else if y=b then none else h.get y:=fun y=>by
  show(T.put T.deep (T.put T.deep hq.t b none) h.next _).get y=_
  rw[T.get_put _ _ _ _ _ (top_deep hnx),T.get_put _ _ _ _ _ (top_deep c2)]
  by_cases e1:y=h.next
  .rw[if_pos e1,if_pos e1]
  .rw[if_neg e1,if_neg e1]
   by_cases e2:y=b
   .rw[if_pos e2,if_pos e2]
   .rw[if_neg e2,if_neg e2]
    have:=getq y
    rw[if_neg e2] at this
    exact this
 have getH:∀y,(⟨T.put T.deep (T.put T.deep h.t b none) h.next (some (.sack (c++[new]) e' i.size)),h.next+1,h.next::b::h.log⟩:H).get y=if y=h.next then some (.sack (c++[new]) e' i.size) else if y=b then none else h.get y:=fun y=>by
  show(T.put T.deep (T.put T.deep h.t b none) h.next _).get y=_
  rw[T.get_put _ _ _ _ _ (top_deep hnx),T.get_put _ _ _ _ _ (top_deep c2)]
  rfl
 obtain⟨l,l1,l2,l3,l4,l5,l6⟩:=r2.log
 have l1:h.next::b::h.log=l++h.log:=l1
 have hll:l=[h.next,b]:=by
  have:[h.next,b]++h.log=l++h.log:=l1
  exact(List.append_cancel_right this).symm
 have known:∀y,(hq.get y).isSome=true→(h.get y).isSome=true:=fun y hy=>by
  rw[getq] at hy
  split at hy
  .rename_i ey;rw[ey,hb];rfl
  .exact hy
 refine⟨v',w',ρ',r1,⟨r2.le,r2.next,fun y hy hx=>r2.born y hy hx,r2.size,[h.next,b],rfl,by rw[←hll];exact l2,by rw[←hll];exact l3,fun y hy=>?_,fun y hy=>?_,fun y hy=>l6 y (by rw[hll];exact hy)⟩,⟨r3.tame,fun y o hy=>?_,fun y y' x k k2 a1 a2 b1 b2=>?_⟩,r4⟩
 .exact(l4 y (by rw[hll];exact hy)).imp (known y) id
 .simp only[List.mem_cons,List.not_mem_nil,or_false,not_or] at hy
  rw[getH,if_neg hy.1,if_neg hy.2]
 .rw[getH] at hy
  split at hy
  .rename_i ey
   cases hy;subst ey
   obtain⟨x,k,o2,m1,m2,d2,r2',rfl,m3,_,m4⟩:=r3.ob h.next _ (by rw[getA,if_pos rfl])
   obtain⟨m5,m6,m7⟩:=m4 _ rfl
   exact⟨x,k,_,m1,m2,p++[new],d2,r2',hperm.append_right [new],rfl,by simpa using m3,m5,m6,m7⟩
  .rename_i ey
   exact r3.ob y o (by rw[getA,if_neg ey];exact hy)
 .have same:∀y,((⟨T.put T.deep (T.put T.deep h.t b none) h.next (some (.sack (c++[new]) e' i.size)),h.next+1,h.next::b::h.log⟩:H).get y).isSome=true→((⟨T.put T.deep (T.put T.deep hq.t b none) h.next (some (.cells (p.flatten++new) e' (some i.size))),h.next+1,h.next::b::h.log⟩:H).get y).isSome=true:=fun y hy=>by
   rw[getH] at hy
   rw[getA]
   split at hy
   .rename_i ey;rw[if_pos ey];rfl
   .rename_i ey;rw[if_neg ey];exact hy
  exact r3.inj y y' x k k2 (same y a1) (same y' a2) b1 b2
theorem appendW_ok{h h':H}{w:World}(hr:HR ρ h w){t ty:TypeId}{s s' x x' v:Value}(hs:VR ρ s s')(hx:VR ρ x x')(e:appendW P h t s x=some (v,h'))(hu:∀b,h.next≤b→b<h'.next→ρ b=.unborn):∃v' w' ρ',(Builtin.append_ #[t,t] ty #[s',x']).run P w=.ok v' w'∧Stp ρ h w ρ' h' w'∧HR ρ' h' w'∧VR ρ' v v':=by
 unfold appendW at e
 split at e
 .rename_i hq
  cases e
  exact append_ok hr hs hx hq hu
 .exact sack_ok hr hs hx e hu
def heapO(P:Program)(ρE:Operand→Option Value)(o:Op)(h:H):Option (Value×H):=
 match o with
 |.range .. | .next .. | .entry ..=>none
 |_=>match heapV P ρE o h with
  |.one x=>some x
  |_=>none
def Gives(n:Next)(v:Value):Prop:=n=.value v∨(n=.skip∧v=undef)
def Does(P:Program)(ρ:Nms)(h:H)(w:World)(s:Sem Next)(v:Value)(h':H):Prop:=
 ∃n v' w' ρ',s.run P w=.ok n w'∧Gives n v'∧Stp ρ h w ρ' h' w'∧HR ρ' h' w'∧VR ρ' v v'
theorem made_inv{r:Option (Nat×H)}{k:Nat→Value}{v:Value}{h':H}(e:made r k=.one (v,h')):∃b,r=some (b,h')∧v=k b:=by
 unfold made at e
 split at e
 .rename_i b h1
  cases e
  exact⟨b,rfl,rfl⟩
 .cases e
theorem done_inv{r:Option H}{v:Value}{h':H}(e:done r=.one (v,h')):r=some h'∧v=.tuple #[]:=by
 unfold done at e
 split at e
 .cases e;exact⟨rfl,rfl⟩
 .cases e
theorem undef_rel:VR ρ (.tuple #[]) undef:=.tuple .nil
theorem row_new{h h':H}{w:World}{c:List Value}{c':List Value}{t:TypeId}{b:Nat}(hr:HR ρ h w)(hc:VRs ρ c c')(e:h.new (.cells c t none)=some (b,h'))(hu:∀b,h.next≤b→b<h'.next→ρ b=.unborn):∃ρ',Stp ρ h w ρ' h' (w.alloc (.cells ⟨c'⟩ t))∧HR ρ' h' (w.alloc (.cells ⟨c'⟩ t))∧Le ρ ρ'∧AR ρ' ⟨b,0,none⟩ ⟨w.heap.size,0,none⟩:=by
 obtain⟨q1,q2,q3,q4⟩:=H.get_new e
 have hur:=hu b (by omega) (by omega)
 have hle:=le_new hur (.at_ w.heap.size 0)
 obtain⟨s1,s2⟩:=new_ok e hur (w:=w) (w':=w.alloc (.cells ⟨c'⟩ t)) rfl hr 0 ⟨c',[],by simp,hc.mono hle,fun _=>rfl,fun _ h=>by cases h⟩
 exact⟨_,s1,s2,hle,⟨by show BR _ b _;unfold BR;rw[upd_same],rfl,rfl,rfl⟩⟩
theorem env_one(hE:Env ρ ρE ρr){x:Operand}{v:Value}(h:ρE x=some v):VR ρ v (ρr x):=hE x v h
set_option maxHeartbeats 1000000 in
theorem heap_alloc{h h':H}{w:World}(hr:HR ρ h w){t:TypeId}{v:Value}(e:heapV P ρE (.alloc t) h=.one (v,h'))(hu:∀b,h.next≤b→b<h'.next→ρ b=.unborn):Does P ρ h w (do pure (.value (← Instr.alloc t true (.tuple #[])))) v h':=by
 simp only[heapV] at e
 split at e
 .rename_i z hz
  obtain⟨b,e1,rfl⟩:=made_inv e
  obtain⟨hzr,hzf⟩:=zero_ok hz w
  have hzv:VRs ρ z.cells.toList z.cells.toList:=(flat_self hzf).cells
  obtain⟨ρ',s1,s2,_,s4⟩:=row_new hr hzv e1 hu
  refine⟨_,.pointer (some ⟨w.heap.size,0,none⟩),_,ρ',?_,.inl rfl,s1,s2,.ptr s4⟩
  simp[Instr.alloc,hzr,newVar,newRow]
 .cases e
theorem heap_box(hE:Env ρ ρE ρr){h h':H}{w:World}(hr:HR ρ h w){t:TypeId}{x:Operand}{v:Value}(e:heapV P ρE (.box t x) h=.one (v,h'))(hu:∀b,h.next≤b→b<h'.next→ρ b=.unborn):Does P ρ h w (do pure (.value (← Instr.box t (ρr x)))) v h':=by
 simp only[heapV] at e
 split at e
 .rename_i u hx
  split at e
  .obtain⟨b,e1,rfl⟩:=made_inv e
   have hv:=(env_one hE hx).cells
   obtain⟨ρ',s1,s2,_,s4⟩:=row_new hr hv e1 hu
   refine⟨_,.pointer (some ⟨w.heap.size,0,none⟩),_,ρ',?_,.inl rfl,s1,s2,.ptr s4⟩
   simp[Instr.box,newVar,newRow]
  .cases e
 .cases e
theorem heap_load(hE:Env ρ ρE ρr){h h':H}{w:World}(hr:HR ρ h w){t:TypeId}{x:Operand}{v:Value}(e:heapV P ρE (.load t x) h=.one (v,h')):Does P ρ h w (do pure (.value (← Instr.loadAt t (ρr x)))) v h':=by
 simp only[heapV] at e
 split at e
 .rename_i a hx
  split at e
  .rename_i u hl
   cases e
   obtain⟨a',hx',ha⟩:=(env_one hE hx).inv_ptr
   obtain⟨v',h1,h2⟩:=loadV_ok hr ha hl
   exact⟨_,v',w,ρ,by simp[Instr.loadAt,Instr.sureAddr,hx',h1],.inl rfl,.refl ρ h w w rfl,hr,h2⟩
  .cases e
 .cases e
theorem heap_store(hE:Env ρ ρE ρr){h h':H}{w:World}(hr:HR ρ h w){t:TypeId}{x y:Operand}{v:Value}(e:heapV P ρE (.store t x y) h=.one (v,h')):Does P ρ h w (do Instr.storeAt t (ρr x) (ρr y);pure .skip) v h':=by
 simp only[heapV] at e
 split at e
 .rename_i a u hx hy
  obtain⟨e1,rfl⟩:=done_inv e
  obtain⟨a',hx',ha⟩:=(env_one hE hx).inv_ptr
  obtain⟨w',h1,h2,h3⟩:=storeV_ok hr ha (env_one hE hy) e1
  exact⟨_,undef,w',ρ,by simp[Instr.storeAt,Instr.sureAddr,hx',h1],.inr ⟨rfl,rfl⟩,h2,h3,undef_rel⟩
 .cases e
theorem map_new{h h':H}{w:World}{b:Nat}(hr:HR ρ h w)(e:h.new (.map [] 0)=some (b,h'))(hu:∀b,h.next≤b→b<h'.next→ρ b=.unborn):∃ρ',Stp ρ h w ρ' h' (w.alloc (.map #[] 0))∧HR ρ' h' (w.alloc (.map #[] 0))∧BR ρ' b w.heap.size:=by
 obtain⟨q1,q2,q3,q4⟩:=H.get_new e
 have hur:=hu b (by omega) (by omega)
 obtain⟨s1,s2⟩:=new_ok e hur (w:=w) (w':=w.alloc (.map #[] 0)) rfl hr 0 ⟨rfl,rfl⟩
 exact⟨_,s1,s2,by show BR _ b _;unfold BR;rw[upd_same]⟩
theorem heap_makeMap{h h':H}{w:World}(hr:HR ρ h w){t:TypeId}{v:Value}(e:heapV P ρE (.makeMap t none) h=.one (v,h'))(hu:∀b,h.next≤b→b<h'.next→ρ b=.unborn):Does P ρ h w (do pure (.value (← Instr.makeMap t none))) v h':=by
 simp only[heapV] at e
 split at e
 .obtain⟨b,e1,rfl⟩:=made_inv e
  obtain⟨ρ',s1,s2,s3⟩:=map_new hr e1 hu
  exact⟨_,.map (some w.heap.size),_,ρ',by simp[Instr.makeMap],.inl rfl,s1,s2,.map s3⟩
 .cases e
end
end Go.Ev
