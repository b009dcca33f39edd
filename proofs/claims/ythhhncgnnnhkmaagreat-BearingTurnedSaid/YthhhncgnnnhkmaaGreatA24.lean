import Derived.Test.YthhhncgnnnhkmaaGreatA23
import Derived.Test.YthhhncgnnnhkmaaGreatA17
import Derived.Test.YthhhncgnnnhkmaaGreatA19
set_option linter.all false
namespace Go.Crew
open Go.Conc Go.ConcN Go.Ren
section
variable[M:Mps][E:Ext]
def EndsWell(P:Program)(Post:Value→World→Prop)(m:Machine)(t:Trace):Prop:=
 ∃N last oc w' t',runNT P (N+1) m t=(.ended oc w',t')∧runN P N m=.next last∧step P last=.ended oc w'∧Conc.Good P Post last oc w' t'
theorem runN_app{P:Program}:∀(n k:Nat) (m m1:Machine) (r:Stepped),runN P n m=.next m1→runN P k m1=r→runN P (n+k) m=r:=by
 intro n
 induction n with
 |zero=>
  intro k m m1 r h h2
  simp only[runN,Stepped.next.injEq] at h
  subst h
  rw[Nat.zero_add];exact h2
 |succ n ih=>
  intro k m m1 r h h2
  rw[show n+1+k=(n+k)+1 by omega]
  unfold runN at h⊢
  generalize hq:step P m=z at h⊢
  cases z with
  |next m3=>exact ih k m3 m1 _ h h2
  |ended oc w3=>simp at h
theorem EndsWell.after{P:Program}{Post:Value→World→Prop}{n:Nat}{m m1:Machine}{t t1:Trace}(h1:EndsWell P Post m1 t1)(h:runNT P n m t=(.next m1,t1)):EndsWell P Post m t:=by
 obtain⟨N,last,oc,w',t',a1,a2,a3,a4⟩:=h1
 have h2:runN P n m=.next m1:=by rw[←runNT_fst P n m t,h]
 exact⟨n+N,last,oc,w',t',by rw[Nat.add_assoc];exact runNT_app n (N+1) m m1 t t1 _ h a1,runN_app n N m m1 _ h2 a2,a3,a4⟩
section
variable[Spc]{P:Program}{S:FuncId→Prop}{Z:Nat→Prop}{w0:World}{Post:Value→World→Prop}
abbrev Fact:=(Nat→Prop)→(Nat→Prop)→Nat→(Nat→Nat)→World→Trace→Prop
def Fact.Still(n:Nat)(F:Fact):Prop:=∀Shr Hid o f f' w w' t t',F Shr Hid o f w t→Since Shr w w' t t'→(∀i,i<n→f' i=f i)→F Shr Hid o f' w' t'
def KMF(P:Program)(S:FuncId→Prop)(Z:Nat→Prop)(w0:World)(Post:Value→World→Prop)(n:Nat)(F:Fact)(fr:Frame)(cs:List Frame)(v:World):Prop:=
 n≤v.heap.size→∀(Shr Hid:Nat→Prop) (o:Nat) (f:Nat→Nat) (gs:Array Goroutine) (w:World) (sl:Option (Nat×Nat)) (t:Trace) (q:Nat→Nat),
  Mirror P S Z Shr Hid o f (Conc.G fr cs) v gs w t q→Rely Z (fun _=>False) w0 w→F Shr Hid o f w t→EndsWell P Post (crowd gs w sl) t
theorem KMF.of_ltree{n:Nat}{F:Fact}(hF:F.Still n)(hz:ZeroOK P)(hS:SOK P S){fr:Frame}{cs:List Frame}{v:World}(ht:LTree P S (fun g v'=>∃fr' cs',g=Conc.G fr' cs'∧KMF P S Z w0 Post n F fr' cs' v'∧Ev.Stays v v') (Conc.G fr cs) v):KMF P S Z w0 Post n F fr cs v:=by
 intro hn Shr Hid o f gs w sl t q hM hR hf
 obtain⟨N,gs',w',sl',t',q',f',g',v',e1,⟨fr',cs',rfl,hk,_⟩,e3,e4,e5,e6,e7⟩:=Mirror.go hz hS
  (D:=fun g v'=>∃fr' cs',g=Conc.G fr' cs'∧KMF P S Z w0 Post n F fr' cs' v'∧Ev.Stays v v') (C:=fun b=>∃o,v.heap[b]?=some o∧chanB o=true)
  (fun g v' ⟨_,_,_,_,hst⟩ b ⟨o,h1,h2⟩ o' h3=>hst b o h1 h2 o' h3) hM sl ht fun b o h1 h2=>⟨o,h1,h2⟩
 exact(hk (Nat.le_trans hn e6) Shr Hid o f' gs' w' sl' t' q' e3 (hR.trans e7) (hF _ _ _ _ _ _ _ _ _ hf e4 fun i hi=>e5 i (Nat.lt_of_lt_of_le hi hn))).after e1
def KM(P:Program)(S:FuncId→Prop)(Z:Nat→Prop)(w0:World)(Post:Value→World→Prop):Frame→List Frame→World→Prop:=KMF P S Z w0 Post 0 fun _ _ _ _ _ _=>True
theorem KM.any{n:Nat}{F:Fact}{fr:Frame}{cs:List Frame}{v:World}(h:KM P S Z w0 Post fr cs v):KMF P S Z w0 Post n F fr cs v:=fun _ Shr Hid o f gs w sl t q hM hR _=>h (Nat.zero_le _) Shr Hid o f gs w sl t q hM hR trivial
theorem KM.mk{fr:Frame}{cs:List Frame}{v:World}(h:∀(Shr Hid:Nat→Prop) (o:Nat) (f:Nat→Nat) (gs:Array Goroutine) (w:World) (sl:Option (Nat×Nat)) (t:Trace) (q:Nat→Nat),Mirror P S Z Shr Hid o f (Conc.G fr cs) v gs w t q→Rely Z (fun _=>False) w0 w→EndsWell P Post (crowd gs w sl) t):KM P S Z w0 Post fr cs v:=fun _ Shr Hid o f gs w sl t q hM hR _=>h Shr Hid o f gs w sl t q hM hR
theorem KM.at_{fr:Frame}{cs:List Frame}{v:World}(h:KM P S Z w0 Post fr cs v){Shr Hid:Nat→Prop}{o:Nat}{f:Nat→Nat}{gs:Array Goroutine}{w:World}{t:Trace}{q:Nat→Nat}(hM:Mirror P S Z Shr Hid o f (Conc.G fr cs) v gs w t q)(sl:Option (Nat×Nat))(hR:Rely Z (fun _=>False) w0 w):EndsWell P Post (crowd gs w sl) t:=
 h (Nat.zero_le _) Shr Hid o f gs w sl t q hM hR trivial
end
theorem kmf_ups{P:Program}{L N:List FuncId}(hz:ZeroOK P)(hS:SOK P (·∈L)){Z:Nat→Prop}{w0:World}{Post:Value→World→Prop}{n:Nat}{F:Fact}(hF:F.Still n):Ev.Ups P L N (@KMF M E (spOf P L N) P (·∈L) Z w0 Post n F):=fun _ _ _ ht=>@KMF.of_ltree M E (spOf P L N) _ _ _ _ _ _ _ hF hz hS _ _ _ ht
theorem km_ups{P:Program}{L N:List FuncId}(hz:ZeroOK P)(hS:SOK P (·∈L)){Z:Nat→Prop}{w0:World}{Post:Value→World→Prop}:Ev.Ups P L N (@KM M E (spOf P L N) P (·∈L) Z w0 Post):=kmf_ups hz hS fun _ _ _ _ _ _ _ _ _ h _ _=>h
end
section
variable[Spc][Hidden]{P:Program}{S:FuncId→Prop}{ty:TypeId}{Wg Ch:Nat}{Ro:Nat→Prop}{B:List Frame}{D:List Deferred}{k:Kind}{n0:Nat}{f0:Nat→Nat}{w0:World}
def KW(P:Program)(S:FuncId→Prop)(ty:TypeId)(Wg Ch:Nat)(Ro:Nat→Prop)(B:List Frame)(D:List Deferred)(k:Kind)(n0:Nat)(f0:Nat→Nat)(w0:World)(fr:Frame)(v:World):Prop:=
 ∀(f:Nat→Nat) (w:World) (own:Nat→Prop),Priv P S Ro own Hidden.ch f (Conc.G fr [bottom]) v w→Rely Ro (fun _=>False) w0 w→(∀b,Ro b→b<w.heap.size∧¬own b)→(∀i,i<n0→f i=f0 i)→n0≤v.heap.size →
  OnWay P Ro (Live ty Wg Ch) false k ⟨dress D (gorS f B (Conc.G fr [bottom])),w,own⟩
theorem KW.step(hz:ZeroOK P)(hS:SOK P S)(hq:k.quiet=false)(hX:∀e r,Hidden.ch r→Look r e→k.X e){fr:Frame}{v:World}(hns:Fit P (Conc.G fr [bottom])){fr1:(Nat→Question→Nat)→Frame}{V:(Nat→Question→Nat)→World}{E:(Nat→Question→Nat)→Array Event}(he:∀t,stepG P true (Conc.G fr [bottom]) (wt v t)=.go (Conc.G (fr1 t) [bottom]) (V t) (E t))(hp:∀t,notPanicking (fr1 t).mode)(hcl:∀t,Ren.Clean S v→Ren.Clean S (V t))(hst:∀t,Ev.Stays v (V t))(hdr:∀(t:Nat→Question→Nat) (f':Nat→Nat) (w1 w2:World) (es:Array Event),Inj f'→(∀g,g<P.globals.size→f' g=g)→Sim f' (kd P S) (wt v t) w1→Fresh f' (wt v t) (V t) w1→stepG P false (gorS f' B (Conc.G fr [bottom])) w1=.go (gorS f' B (Conc.G (fr1 t) [bottom])) w2 es→stepG P false (dress D (gorS f' B (Conc.G fr [bottom]))) w1=.go (dress D (gorS f' B (Conc.G (fr1 t) [bottom]))) w2 es)(next:∀t,KW P S ty Wg Ch Ro B D k n0 f0 w0 (fr1 t) (V t)):KW P S ty Wg Ch Ro B D k n0 f0 w0 fr v:=by
 intro f w own hpr hR hRo hag hn
 have hup:∀t,Up (Conc.G (fr1 t) [bottom]):=fun t=>⟨[],rfl⟩
 have hsm:∀t,Smooth (Conc.G (fr1 t) [bottom]):=fun t=>⟨rfl,.inl rfl,hp t⟩
 have hok:∀t,Ok P S (Conc.G (fr1 t) [bottom]) (V t):=fun t=>(hpr.ok.wt t).step hz hS hns (hcl t) (he t) (hsm t) (hup t) rfl
 unfold OnWay
 rw[hq]
 refine way_step_dr hz hS (fun e r h1 h2 h3 h4=>hX e r h1 ⟨h2,h3,h4⟩) hpr.ok hns he hsm hok hpr (fun t b o o1 hb hc hb1=>hst t b o hb hc o1 hb1) hRo (dr:=dress D) (dress_status D) hdr fun t f' w' own' hp' hw' hRo' ha' hsz _=>?_
 have h1:=next t f' w' own' hp' (hR.trans hw') hRo' (fun i hi=>(ha' i (Nat.lt_of_lt_of_le hi hn)).trans (hag i hi)) (Nat.le_trans hn hsz)
 unfold OnWay at h1
 rw[hq] at h1
 exact h1
end
def dressAt(n:Nat)(D:List Deferred)(g:Goroutine):Goroutine:=
 if g.callers.length=n then dress D g else{g with callers:=match g.callers with|c::cs=>{c with defers:=D}::cs | []=>[]}
theorem dressAt_status(n:Nat)(D:List Deferred)(g:Goroutine):(dressAt n D g).status=g.status:=by
 unfold dressAt;split<;>rfl
theorem dressAt_top(D:List Deferred)(F:Frame)(B:List Frame):dressAt B.length D (Conc.G F B)=Conc.G {F with defers:=D} B:=by
 show(if B.length=B.length then _ else _)=_
 rw[if_pos rfl];rfl
theorem dressAt_below(D:List Deferred)(F c:Frame)(B:List Frame):dressAt B.length D (Conc.G F (c::B))=Conc.G F ({c with defers:=D}::B):=by
 show(if (c::B).length=B.length then _ else _)=_
 rw[if_neg (by simp)];rfl
section
variable[Spc][Hidden]{P:Program}{S:FuncId→Prop}{ty:TypeId}{Wg Ch:Nat}{Ro:Nat→Prop}{B:List Frame}{D:List Deferred}{k:Kind}{n0:Nat}{f0:Nat→Nat}{w0:World}
theorem gorS_one(f:Nat→Nat)(B:List Frame)(fr:Frame):gorS f B (Conc.G fr [bottom])=Conc.G (frame f fr) B:=by
 have hs:stk f B [bottom]=B:=by
  have:=stk_up f B bottom []
  simpa using this
 unfold gorS gor
 dsimp only[Conc.G]
 rw[hs]
theorem gorS_two(f:Nat→Nat)(B:List Frame)(fr c:Frame):gorS f B (Conc.G fr [c,bottom])=Conc.G (frame f fr) (frame f c::B):=by
 have hs:stk f B [c,bottom]=frame f c::B:=by
  have:=stk_up f B bottom [c]
  simpa using this
 unfold gorS gor
 dsimp only[Conc.G]
 rw[hs]
theorem KW.call(hz:ZeroOK P)(hS:SOK P S)(hq:k.quiet=false)(hX:∀e r,Hidden.ch r→Look r e→k.X e){fr:Frame}{v:World}(hns:Fit P (Conc.G fr [bottom])){ops:Array Oper}{i:Nat}{rest:List Nat}{kk:List Item}{o:Oper}(hm:fr.mode=.run)(hr:fr.roundOf=none)(ht:fr.todo=.inRegion ops (i::rest)::kk)(ho:ops[i]?=some o)(hoL:OperOK P S o)(hv:∀x,OpndOK P S x→ValMet (fr.eval x))(hl:∀(w:World) c d g,o.op=.call c→resolve fr.eval c o.type=pure d→d.target.leads P w d.args=some g→S g){fn:FuncId}{args:Array Value}(hlone:∀t,(execOp fr.eval o).run P (wt v t)=.ok (.enter fn args) (wt v t)){E:(Nat→Question→Nat)→Array Event}(he:∀t,stepG P true (Conc.G fr [bottom]) (wt v t)=.go (Conc.G (Frame.enter P fn args .normal) [fr,bottom]) (wt v t) (E t))(hfn:S fn)(hargs:CleanV S args){Post:Value→World→Prop}(hP:∀x v t,Post x v→Post x (wt v t))(hc:∀t,Calls P fn args (wt v t) fun e w'=>∃x,e=.returned x∧Post x w')(hst:∀x v',Post x v'→Ev.Stays v v')(next:∀x v',Post x v'→v.heap.size≤v'.heap.size→KW P S ty Wg Ch Ro B D k n0 f0 w0 (fr.finish x) v'):KW P S ty Wg Ch Ro B D k n0 f0 w0 fr v:=by
 intro f w own hpr hR hRo hag hn
 have hup:∀t:Nat→Question→Nat,Up (Conc.G (Frame.enter P fn args .normal) [fr,bottom]):=fun _=>⟨[fr],rfl⟩
 have hsm:Smooth (Conc.G (Frame.enter P fn args .normal) [fr,bottom]):=⟨rfl,.inl rfl,trivial⟩
 have hok:∀t,Ok P S (Conc.G (Frame.enter P fn args .normal) [fr,bottom]) (wt v t):=fun t=>(hpr.ok.wt t).step hz hS hns (fun h=>h) (he t) hsm (hup t) rfl
 have hstart:dress D (gorS f B (Conc.G fr [bottom]))=dressAt B.length D (gorS f B (Conc.G fr [bottom])):=by
  rw[gorS_one,dressAt_top];rfl
 rw[hstart]
 unfold OnWay
 rw[hq]
 have hX':∀e r,Hidden.ch r→e.loc=.obj r→e.write=false→e.sync=true→k.X e:=fun e r h1 h2 h3 h4=>hX e r h1 ⟨h2,h3,h4⟩
 refine way_step_dr hz hS hX' hpr.ok hns he (fun _=>hsm) hok hpr (fun t b o o1 hb hc hb1=>?_) hRo (dr:=dressAt B.length D) (dressAt_status _ D) ?_ fun t f' w' own' hp' hw' hRo' ha' hsz _=>?_
 .have:(wt v t).heap[b]?=some o:=hb
  rw[this] at hb1
  rw[←Option.some.inj hb1];exact hc
 .intro t f' w1 w2 es hf hx hs hfr h
  rw[gorS_one,gorS_two] at h
  rw[gorS_one,gorS_two]
  rw[dressAt_top,dressAt_below]
  have hR:=run_oper (P:=P) (S:=S) hf hx hz hs hS hoL hv (fun c d g a b c'=>hl _ c d g a b c')
  have e0:=Sem.runT_fst P (execOp fr.eval o) (wt v t) #[]
  rw[hlone t] at e0
  generalize hq:(execOp fr.eval o).runT P (wt v t) #[]=z at e0
  obtain⟨z,es1⟩:=z
  cases e0
  obtain⟨b,w3,g1,g2,_⟩:=hR.ok #[] _ (wt v t) es1 (fun e he=>by simp at he) hq hfr
  have e3:=Sem.runT_fst P (execOp (frame f' fr).eval o) w1 (#[].map (event f'))
  rw[g1] at e3
  have hrun:(execOp (frame f' fr).eval o).run P w1=.ok b w3:=e3.symm
  have hb:b=.enter (Fr.fid fn) (vals f' args):=g2.1
  subst hb
  refine dress_enter D (by simp[frame,hm,mode]) (by simp[frame,hr]) (k:=kk.map (item f')) (rest:=rest) (i:=i) (ops:=ops) (by simp[frame,ht,item]) ho ?_ ?_ ?_ ?_ ?_ h (by trivial)
  .intro w' hh;rw[hrun] at hh;cases hh
  .intro d w' hh;rw[hrun] at hh;cases hh
  .intro d w' hh;rw[hrun] at hh;cases hh
  .intro d w' hh;rw[hrun] at hh;cases hh
  .intro r s w' hh;rw[hrun] at hh;cases hh
 .rw[gorS_two]
  rw[dressAt_below,enter_frame]
  have hsub:@Priv _ _ noSp P S Ro own' Hidden.ch f' (Conc.G (Frame.enter P fn args .normal) [bottom]) (wt v t) w':=@Priv.mk _ _ noSp _ _ _ _ _ _ _ _ _ (Ok.sub hS hfn hargs hp'.ok) hp'.inj hp'.fix hp'.sim hp'.held
  refine way_call (v:=wt v t) hz hS hX' hP (C:=fun b=>∃o,v.heap[b]?=some o∧chanB o=true) (fun x v' hpo b ⟨o,h1,h2⟩ o' h3=>hst x v' hpo b o h1 h2 o' h3) (fun b o h1 h2=>⟨o,h1,h2⟩) hsub hRo' (fun t1=>hc t1) ?_
  intro x f2 frx v2 w2 own2 hpo hlv hp2 hw2 hRo2 ha2 hsz2
  obtain⟨q1,q2,q3,q4,q5⟩:=hp2
  have ok2:Ok P S (Conc.G frx [fr,bottom]) v2:=Ok.back q1 hp'.ok hsz2
  have ok3:=ok_finish hz hS ok2 (by simp) hlv (by rw[hm];trivial)
  have hfr2:frame f' fr=frame f2 fr:=by
   have h1:=(hp'.ok.bound frId frId f' f2 ⟨fun i hi=>(ha2 i hi).symm,fun _ _=>rfl⟩).1
   have h2:=congrArg Goroutine.callers h1
   simp only[gor,Conc.G,List.map_cons,List.cons.injEq] at h2
   exact h2.1
  have hfin:({frame f' fr with defers:=D}:Frame).finish (val f2 x)={frame f2 (fr.finish x) with defers:=D}:=by
   rw[finish_defers,hfr2,finish_frame fr x hpr.ok.gok.frame.items]
  rw[hfin]
  have h1:=next x v2 hpo hsz2 f2 w2 own2 ⟨ok3,q2,q3,q4,q5⟩ ((hR.trans hw').trans hw2) hRo2 (fun i hi=>?_) (Nat.le_trans hn hsz2)
  .unfold OnWay at h1
   rw[hq,gorS_one] at h1
   exact h1
  .have hi':=Nat.lt_of_lt_of_le hi hn
   exact(ha2 i hi').trans ((ha' i hi').trans (hag i hi))
end
section
variable{P:Program}
theorem defer_st{F:Frame}{ops:Array Oper}{i:Nat}{rest:List Nat}{k:List Item}{o:Oper}{g:FuncId}{x:Operand}{ats:Array TypeId}(hm:F.mode=.run)(hro:F.roundOf=none)(ht:F.todo=.inRegion ops (i::rest)::k)(ho:ops[i]?=some o)(hw:Region.wanted o (yielded ops F.tmps)=true)(hop:o.op=.defer {callee:=.value (.func g),args:=#[x],argTypes:=ats})(m:Bool)(cs:List Frame)(w:World):stepG P m (G F cs) w=.go (G ({F with defers:={target:=.fn (.func g) #[],args:=#[F.eval x]}::F.defers}.finish undef) cs) w #[]:=by
 obtain⟨fn,tmps,todo,defers,mode,kind,ro⟩:=F
 dsimp only at hm hro ht hw⊢
 subst hm hro ht
 unfold Conc.G stepG stepG.exec
 dsimp only
 rw[if_pos (by rw[ho];simpa using hw)]
 unfold stepG.oper Frame.oper?
 dsimp only
 rw[ho]
 dsimp only
 generalize hev:(Frame.mk fn tmps (.inRegion ops (i::rest)::k) defers .run kind none).eval=ev
 have hr:(execOp ev o).run P w=.ok (.defer {target:=.fn (.func g) #[],args:=#[ev x]}) w:=by
  unfold execOp;rw[hop];dsimp only
  unfold resolve
  subst hev
  simp[Frame.eval,Deferred.ofValue,Sem.run]
 have he0:(execOp ev o).events P w #[]=#[]:=by
  unfold execOp;rw[hop];dsimp only
  unfold resolve
  subst hev
  simp[Frame.eval,Deferred.ofValue]
 unfold stepG.apply
 simp only[Sem.runT_eq,hr,he0,if_true]
 have hs:seen P fn #[]=#[]:=seen_none P fn
 simp[GStep.after,hs]
end
section
variable[Spc][Hidden]{P:Program}{S:FuncId→Prop}{ty:TypeId}{Wg Ch:Nat}{Ro:Nat→Prop}{B:List Frame}{k:Kind}{n0:Nat}{f0:Nat→Nat}{w0:World}
def doneD(g:FuncId)(Wg:Nat):Deferred:={target:=.fn (.func g) #[],args:=#[.pointer (some ⟨Wg,0,none⟩)]}
theorem KW.defer{fr:Frame}{v:World}{ops:Array Oper}{i:Nat}{rest:List Nat}{kk:List Item}{o:Oper}{g:FuncId}{x:Operand}{b:Nat}{ats:Array TypeId}(hm:fr.mode=.run)(hro:fr.roundOf=none)(ht:fr.todo=.inRegion ops (i::rest)::kk)(ho:ops[i]?=some o)(hw:Region.wanted o (yielded ops fr.tmps)=true)(hop:o.op=.defer {callee:=.value (.func g),args:=#[x],argTypes:=ats})(hx:OpndOK P (Nm S) x)(hv:fr.eval x=.pointer (some ⟨b,0,none⟩))(hb:b<n0)(hfb:f0 b=Wg)(next:KW P S ty Wg Ch Ro B [doneD g Wg] k n0 f0 w0 (fr.finish undef) v):KW P S ty Wg Ch Ro B [] k n0 f0 w0 fr v:=by
 intro f w own hp hR hRo hag hn
 have hb':b<v.heap.size:=Nat.lt_of_lt_of_le hb hn
 refine Ren.Way.step hp.ok.run (fun w1=>dress [doneD g Wg] (gorS (rebase f v w1) B (Conc.G (fr.finish undef) [bottom]))) id (fun _=>#[]) (fun w1 hr _=>?_) (fun w1 hr _=>?_)
 .obtain⟨hp1,_,heq⟩:=hp.rely hr B
  refine⟨?_,⟨fun _=>⟨rfl,rfl⟩,Nat.le_refl _,fun _ _ _=>rfl,rfl,fun b hb=>hb,fun e he=>(by simp at he),.refl _,.refl _⟩⟩
  rw[heq,gorS_one,gorS_one]
  have hw':Region.wanted o (yielded ops (vals (rebase f v w1) fr.tmps))=true:=by rw[yielded_vals];exact hw
  have hst:=defer_st (P:=P) (F:={frame (rebase f v w1) fr with defers:=[]}) (ops:=ops) (i:=i) (rest:=rest) (k:=kk.map (item (rebase f v w1))) (by simp[frame,hm,mode]) (by simp[frame,hro]) (by simp[frame,ht,item]) ho hw' hop false B w1
  have hev:({frame (rebase f v w1) fr with defers:=[]}:Frame).eval x=.pointer (some ⟨Wg,0,none⟩):=by
   have h1:=eval_frame (S:=Nm S) (f:=rebase f v w1) hp1.fix (fun _ _=>rfl) fr hx
   have h2:({frame (rebase f v w1) fr with defers:=[]}:Frame).eval x=(frame (rebase f v w1) fr).eval x:=by cases x<;>rfl
   rw[h2,h1,hv]
   have:rebase f v w1 b=Wg:=by rw[rebase_lt hb',hag b hb,hfb]
   simp[addr,this]
  rw[hev] at hst
  have hfin:({frame (rebase f v w1) fr with defers:=[doneD g Wg]}:Frame).finish undef={frame (rebase f v w1) (fr.finish undef) with defers:=[doneD g Wg]}:=by
   have:=finish_frame (f:=rebase f v w1) fr undef hp.ok.gok.frame.items
   rw[undef_closed] at this
   rw[finish_defers,this]
  have h9:stepG P false (dress [] (Conc.G (frame (rebase f v w1) fr) B)) w1=.go (Conc.G (({frame (rebase f v w1) fr with defers:=[doneD g Wg]}:Frame).finish undef) B) w1 #[]:=hst
  rw[h9,hfin];rfl
 .obtain⟨hp1,_,_⟩:=hp.rely hr B
  have hmore:∀b,more own w1 w1 b→own b:=fun b hb=>hb.elim id fun h=>by omega
  have hsz:=hr.size
  refine next _ _ _ ⟨hp.ok.put named_undef,hp1.inj,hp1.fix,hp1.sim,fun b o hb=>(hp1.held b o hb).imp (And.imp_left .inl) id⟩ (hR.trans ⟨hr.size,fun b hb ho=>?_,hr.cells,hr.chans⟩) (fun b hb=>?_) (fun i hi=>(rebase_lt (Nat.lt_of_lt_of_le hi hn)).trans (hag i hi)) hn
  .rcases ho with ho|ho
   .exact hr.keep b hb (.inl ho)
   .exact ho.elim
  .obtain⟨h1,h2⟩:=hRo b hb
   exact⟨Nat.lt_of_lt_of_le h1 hsz,fun h=>h2 (hmore b h)⟩
end
section
variable[Spc]{P:Program}{S:FuncId→Prop}{Z:Nat→Prop}{w0:World}{Post:Value→World→Prop}
theorem KM.ends{fr:Frame}{v:World}{fn:Func}{tr:Tmp}(hfn:P.funcs[fr.fn]?=some fn)(hres:fn.results=#[.tmp tr])(hin:P.inits.idxOf? fr.fn=none)(hm:fr.mode=.returning)(hd:fr.defers=[])(hk:fr.kind=.normal)(hp:∀(f:Nat→Nat) (w:World) (d:Nat),Rely Z (fun _=>False) w0 w→Post (val f (fr.tmps.getD tr undef)) (w.at d)):KM P S Z w0 Post fr [bottom] v:=by
 refine KM.mk fun Shr Hid o f gs w sl t q hM hR=>?_
 exact Mirror.ends hM sl hfn hres hin hm hd hk fun d=>hp f w d hR
def all(w:World):Nat→Prop:=fun b=>b<w.heap.size
theorem KM.start(hS:SOK P S){fn:FuncId}(hfn:S fn∨FrameGood P S (Frame.enter P fn #[] .normal)){args:Array Value}{w:World}(hG:P.globals.size≤(enum w).length)(hup:∀g,g<P.globals.size→up w g=g)(ha:∀x∈args,closedB x=true)(h:KM P S (all w) w Post (Frame.enter P fn args .normal) [bottom] (frz (fun _=>True) (lower S w))):EndsWell P Post (solo (Conc.G (Frame.enter P fn args .normal) []) w) #[]:=by
 have hM:=Mirror.start (P:=P) (S:=S) hS hfn hG hup fun x hx=>onlyIn_closed (K:=(·∈enum w)) (ha x hx)
 have e:vals (down w) args=args:=by
  unfold vals
  exact(Array.map_congr_left fun x hx=>closedB_closed (ha x hx) _).trans (Array.map_id args)
 rw[e] at hM
 have hM2:=hM.leave (A:=fun _=>True) (Z':=all w) (fun b x _ hx=>?_) (fun _ h=>h.elim) (fun b hb=>⟨hb,id⟩) (fun b _ _ hm=>hm.1.1) (fun b hn=>absurd trivial hn)
 .rw[solo_eq_crowd]
  exact h.at_ hM2 none (Rely.refl _ _ _)
 .obtain⟨_,c,e1,fr,_,rfl⟩:=lower_get S w hx
  unfold lowerObj
  dsimp only
  split<;>exact⟨fun _ _ h=>by simp at h,fun h=>by simp[Obj.isChan] at h⟩
end
theorem keptBut_of_rely{w w1:World}(h:Rely (all w) (fun _=>False) w w1)(d:Nat)(may:MemPlace→Prop):w.keptBut (w1.at d) may:=by
 refine⟨h.chans.os,h.chans.output,fun i hi=>?_⟩
 have e:(w1.at d).heap[i]?=w.heap[i]?:=h.keep i hi (.inl hi)
 rw[e]
 cases hx:w.heap[i]? with
 |none=>rfl
 |some x=>cases x<;>first|exact⟨rfl,rfl,rfl,fun _ _=>rfl⟩|exact .inr ⟨rfl,rfl⟩|rfl
end Go.Crew
namespace Go.Ev
open Go.Conc Go.Ren
section
variable{P:Program}{L N:List FuncId}{K:Frame→List Frame→World→Prop}{invN:FuncId→List Value→H→Option (Value×H)}{invL:Iv}
theorem func_top(hI:IvK P L N K invN invL)(hLN:∀f∈L,f∉N){f:FuncId}{fn:Func}{tr:Tmp}{args:List Value}{h h':H}(hf:P.funcs[f]?=some fn)(hres:fn.results=#[.tmp tr])(e:funcC P L N invN invL f args h=some (.bool true,h')){ρ:Ev.Nms}{args':List Value}{w:World}(ha:VRs ρ args args')(hr:HR ρ h w)(hu:Unb ρ h.next h'.next)(hend:∀(fr:Frame) (w':World),fr.fn=f→fr.mode=.returning→fr.defers=[]→fr.kind=.normal→fr.tmps.getD tr undef=.bool true→K fr [bottom] w'):K (Frame.enter P f ⟨args'⟩ .normal) [bottom] w:=by
 unfold funcC at e
 rw[hf] at e
 simp only at e
 split at e
 case h_2=>cases e
 rename_i c t hb ht hname
 split at e
 case h_2=>cases e
 rename_i hcl
 split at e
 case h_2=>cases e
 rename_i x hx
 obtain⟨n1,h1⟩:=code_K hI hLN c _ x hx
 have hx':(∃id,x.1=.exit id)∨(resultV P x.2.t x.2.h fn.results.toList=some (.bool true)∧h'=x.2.h):=by
  unfold leaveC at e
  split at e
  .rename_i id hid;exact .inl ⟨id,hid⟩
  .split at e
   .rename_i u hru;cases e;exact .inr ⟨hru,rfl⟩
   .cases e
 have hne:¬ ∃id,x.1=.exit id:=fun⟨id,hid⟩=>by
  unfold leaveC at e
  rw[hid] at e
  cases e
 obtain⟨hrv,rfl⟩:=hx'.resolve_left hne
 simp only at n1
 let b:Frame:={ (default:Frame) with fn:=f,kind:=.normal}
 have hl:=ha.length
 have henter:Frame.enter P f ⟨args'⟩ .normal=b.atR {tmps:=(⟨args'⟩:Array Value)++Array.replicate (fn.ntmps-args.length) undef,defers:=[]} [.code c]:=by
  simp[Frame.enter,Frame.atR,hf,hb,b,hl]
  rfl
 rw[henter]
 have htr:x.2.t.get tr=some (.bool true):=by
  rw[hres] at hrv
  unfold resultV at hrv
  simp only[resultsL] at hrv
  cases hg:x.2.t.get tr with
  |none=>rw[hg] at hrv;simp at hrv
  |some u=>rw[hg] at hrv;simpa using hrv
 have hval:∀ρ' (a':Act),TR ρ' (args.length+(fn.ntmps-args.length)) x.2.t a'.tmps→a'.tmps.getD tr undef=.bool true:=fun ρ' a' d4=>by
  obtain⟨v',q1,q2⟩:=d4.get _ _ htr
  rw[Array.getD_eq_getD_getElem?,q1,q2.inv_bool]
  rfl
 refine h1 ρ b _ [] [bottom] w rfl rfl ⟨[],rfl⟩ (args_tr ht ha) hr hu fun ρ' a' w' d1 d2 d3 d4=>?_
 have d1:a'.defers=[]:=d1
 obtain⟨ex,sx⟩:=x
 cases ex with
 |exit id=>exact absurd ⟨id,rfl⟩ hne
 |normal=>
  show K (b.atR a' []) [bottom] w'
  refine hI.ups.own (@fit_nil _ P (spOf P L N) _ _ rfl rfl) fun tp=>?_
  exact⟨{b.atR a' [] with mode:=.returning},[bottom],wt w' tp,#[],by unfold Conc.G;simp[stepG,stepG.exec,Frame.atR,b];rfl,trivial,⟨[],rfl⟩,fun hc=>Ren.clean_same hc rfl,.of rfl,hend {b.atR a' [] with mode:=.returning} (wt w' tp) rfl rfl d1 rfl (hval ρ' a' d4)⟩
 |ret=>
  intro k0
  refine hI.ups.own (fit_at_item rfl) fun tp=>?_
  exact⟨{b.atR a' (.code .ret::k0) with mode:=.returning},[bottom],wt w' tp,#[],by unfold Conc.G;simp[stepG,stepG.exec,Frame.atR,b];rfl,trivial,⟨[],rfl⟩,fun hc=>Ren.clean_same hc rfl,.of rfl,hend {b.atR a' (.code .ret::k0) with mode:=.returning} (wt w' tp) rfl rfl d1 rfl (hval ρ' a' d4)⟩
end
end Go.Ev
