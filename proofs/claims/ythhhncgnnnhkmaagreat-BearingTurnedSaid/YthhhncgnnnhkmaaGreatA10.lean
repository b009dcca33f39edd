import Derived.Test.YthhhncgnnnhkmaaGreatA08
set_option linter.all false
namespace Go.Ev
open Go.ChangeMaps (setBlock)
section
variable{P:Program}{inv:Iv}
theorem stp_keeps'{ρ ρ':Nms}{h h':H}{w w':World}(s:Stp ρ h w ρ' h' w'){b:Nat}(h1:h.get b=none)(h2:b<h.next)(h3:ρ b≠.unborn):ρ' b=ρ b:=by
 obtain⟨l,_,_,_,q1,_,q2⟩:=s.log
 refine q2 b (fun hb=>?_) h3
 rcases q1 b hb with h4|h4
 .rw[h1] at h4;cases h4
 .omega
theorem reserve'{ρ:Nms}{h:H}{w w':World}{o:Obj}(hr:HR ρ h w)(hu:ρ h.next=.unborn)(hw:w'.heap=w.heap.push o)(ho:numB o=false):Stp ρ h w (upd ρ h.next (.at_ w.heap.size 0)) ⟨h.t,h.next+1,h.log⟩ w'∧HR (upd ρ h.next (.at_ w.heap.size 0)) ⟨h.t,h.next+1,h.log⟩ w':=by
 have hle:Le ρ (upd ρ h.next (.at_ w.heap.size 0)):=le_new hu _
 have hkn:∀b o,h.get b=some o→b≠h.next:=fun b o hb e=>by
  subst e
  obtain⟨x,k,o',h1,_⟩:=hr.ob _ o hb
  rw[hu] at h1;cases h1
 have hkeep:∀(x:Nat) (o:Obj),w.heap[x]?=some o→w'.heap[x]?=some o:=fun x o hx=>by
  have:=(Array.getElem?_eq_some_iff.1 hx).1
  rw[hw,Array.getElem?_push,if_neg (by omega)];exact hx
 refine⟨⟨hle,Nat.le_succ _,fun b hb hx=>?_,by rw[hw];simp,[],rfl,fun x o hx _=>hkeep x o hx,fun b x k hb=>?_,fun _ h=>by simp at h,fun _ _=>rfl,fun b _ hb=>?_⟩,hr.tame.push hw ho,fun b o hb=>?_,fun b c x k l hb hc hx hy=>?_⟩
 .rw[upd_other]
  .exact hb
  .rintro rfl
   rcases hx with hx|hx
   .exact absurd hx (Nat.lt_irrefl _)
   .exact absurd hx (Nat.not_succ_le_self _)
 .by_cases e:b=h.next
  .subst e
   rw[upd_same] at hb
   cases hb
   exact .inr ⟨hu,.inl (Nat.le_refl _)⟩
  .rw[upd_other _ _ e] at hb;exact .inl hb
 .rw[upd_other]
  rintro rfl
  exact hb hu
 .obtain⟨x,k,o',h1,h2,h3⟩:=hr.ob b o hb
  exact⟨x,k,o',by rw[upd_other _ _ (hkn b o hb)];exact h1,hkeep _ _ h2,h3.mono hle⟩
 .obtain⟨o1,h1⟩:=Option.isSome_iff_exists.1 hb
  obtain⟨o2,h2⟩:=Option.isSome_iff_exists.1 hc
  rw[upd_other _ _ (hkn b o1 h1)] at hx
  rw[upd_other _ _ (hkn c o2 h2)] at hy
  exact hr.inj b c x k l hb hc hx hy
structure Lonely(ρ:Nms)(h:H)(nI r:Nat)(o:Obj)(w:World):Prop where
 name:ρ nI=.at_ r 0
 apart:∀b k,(h.get b).isSome=true→ρ b≠.at_ r k
 obj:w.heap[r]?=some o
theorem Lonely.step{ρ ρ':Nms}{h h':H}{w w':World}{nI r:Nat}{o:Obj}(L:Lonely ρ h nI r o w)(s:Stp ρ h w ρ' h' w')(hu:Unb ρ h.next h'.next)(h1:h.get nI=none)(h2:nI<h.next):Lonely ρ' h' nI r o w':=by
 have hne:ρ nI≠.unborn:=by rw[L.name];exact fun h=>by cases h
 have hn:=stp_keeps' s h1 h2 hne
 obtain⟨l,_,f,g,q1,q2,_⟩:=s.log
 have hnl:∀b k,b∈l→ρ b≠.at_ r k:=fun b k hb e=>by
  rcases q1 b hb with h4|h4
  .exact L.apart b k h4 e
  .rw[hu b h4.1 h4.2] at e;cases e
 refine⟨hn.trans L.name,fun b k hk hb=>?_,f r o L.obj hnl⟩
 rcases g b r k hb with h3|⟨_,h3|⟨c,m,hc,hm⟩⟩
 .by_cases hbl:b∈l
  .exact hnl b k hbl h3
  .rw[q2 b hbl] at hk
   exact L.apart b k hk h3
 .have:=(Array.getElem?_eq_some_iff.1 L.obj).1;omega
 .exact absurd hm (hnl c m hc)
theorem Lonely.less{ρ:Nms}{h h':H}{w:World}{nI r:Nat}{o:Obj}(L:Lonely ρ h nI r o w)(hk:∀b,(h'.get b).isSome=true→(h.get b).isSome=true):Lonely ρ h' nI r o w:=⟨L.name,fun b k hb=>L.apart b k (hk b hb),L.obj⟩
structure Kys where
 fn:Func
 i0:Nat
 oL:Oper
 oR:Oper
 bid:Nat
 i1:Nat
 oN:Oper
 ops1:List Oper
 c7:Operand
 bid1:Nat
 i2:Nat
 oE:Oper
 ops2:List Oper
 cR:Code
 d4:Nat
 d5:Nat
 d6:Nat
 d8:Nat
 tM:TypeId
 kT:TypeId
 vT:TypeId
def Kys.inner(c:Kys):Code:=.seq (.region c.i2 ⟨c.oE::c.ops2⟩ false) c.cR
def Kys.lb(c:Kys):Code:=.seq (.region c.i1 ⟨c.oN::c.ops1⟩ false) (.seq (.cond c.c7 .skip (.exit c.bid)) (.block c.bid1 c.inner))
def Kys.body(c:Kys):Code:=.seq (.region c.i0 #[c.oL,c.oR] false) (.block c.bid (.loop c.lb))
structure Kys.OK(P:Program)(c:Kys)(f:FuncId):Prop where
 ff:P.funcs[f]?=some c.fn
 fb:c.fn.body=some c.body
 fname:(c.fn.name == "runtime.NumGoroutine")=false
 gR:c.oR.guard=none
 dR:c.oR.dst=some c.d5
 opR:c.oR.op=.range c.tM (.tmp c.d4)
 und:P.underlying c.tM=some (.map c.kT c.vT)
 gN:c.oN.guard=none
 dN:c.oN.dst=some c.d6
 opN:c.oN.op=.next (.tmp c.d5) false
 gE:c.oE.guard=none
 dE:c.oE.dst=some c.d8
 opE:c.oE.op=.entry (.tmp c.d5)
def chunks(z:Nat):Nat→List Value→List (List Value)
 |0,_=>[]
 |k+1,l=>match l with
  |[]=>[]
  |_=>match cut l 0 z with
   |some a=>a::chunks z k (l.drop z)
   |none=>[l]
def sackify:Ob→Ob
 |.cells c e (some z)=>.sack (chunks z c.length c) e z
 |o=>o
def dedup:List Nat→List Nat→List Nat
 |[],acc=>acc
 |b::l,acc=>match acc.any fun c=>Nat.beq c b with
  |true=>dedup l acc
  |false=>dedup l (b::acc)
def nodupB:List Nat→Bool
 |[]=>true
 |b::l=>(l.all fun c=>!Nat.beq c b)&&nodupB l
theorem nodupB_ok:∀{l:List Nat},nodupB l=true→l.Nodup
 |[],_=>List.nodup_nil
 |b::l,h=>by
  simp only[nodupB,Bool.and_eq_true] at h
  refine List.nodup_cons.2 ⟨fun hb=>?_,nodupB_ok h.2⟩
  have:=List.all_eq_true.1 h.1 b hb
  simp at this
section
variable(P:Program)(inv:Iv)(c:Kys)(f:FuncId)(n:Nat)(h:H)
def Kys.ptr(h:H):Value:=.pointer (some ⟨h.next,0,none⟩)
def Kys.outO(s:Cst)(e:MapEntry):Option (T Value×H):=
 match setT s.t n (some c.d6) (.tuple ⟨[.bool true,e.key,e.val]⟩) with
 |some tN=>match opsO P inv noCk n (c.oN::c.ops1) c.ops1 tN (s.h0 h) with
  |some (t2,h2)=>match h2.log,evalO t2 c.c7 with
   |[],some (.bool true)=>match setT t2 n (some c.d8) (.tuple ⟨[e.key,e.val]⟩),(match t2.get c.d5 with|some v=>eqV v (Kys.ptr h)|none=>false) with
    |some t3,true=>match opsO P inv noCk n (c.oE::c.ops2) c.ops2 t3 h2 with
     |some (t4,h4)=>match codeO P inv f n none c.cR ⟨t4,h4,[]⟩ with
      |some (.normal,⟨t5,h5,[]⟩)=>some (t5,h5)
      |_=>none
     |none=>none
    |_,_=>none
   |_,_=>none
  |none=>none
 |none=>none
def Kys.endO(s:Cst):Option (T Value×H):=
 match setT s.t n (some c.d6) (.tuple ⟨[.bool false]⟩) with
 |some tN=>match opsO P inv noCk n (c.oN::c.ops1) c.ops1 tN (s.h0 h) with
  |some (t2,h2)=>match evalO t2 c.c7 with
   |some (.bool false)=>some (t2,h2)
   |_=>none
  |none=>none
 |none=>none
def Kys.has(S:List Nat)(b:Nat):Bool:=S.any fun c=>Nat.beq c b
def Kys.outsT(S:List Nat)(s:Cst):List MapEntry→Option (List (List Nat×T Value×H))
 |[]=>some []
 |e::es=>match Kys.has S e.born with
  |true=>Kys.outsT S s es
  |false=>match Kys.outO P inv c f n h s e,Kys.outsT S s es with
   |some (t,h'),some r=>some ((S++[e.born],t,h')::r)
   |_,_=>none
def Kys.outs(es:List MapEntry):List (List Nat×Cst)→Option (List (List Nat×T Value×H))
 |[]=>some []
 |(S,s)::l=>match es.all (fun e=>Kys.has S e.born),Kys.outsT P inv c f n h S s es,Kys.outs es l with
  |false,some a,some b=>some (a++b)
  |_,_,_=>none
def Kys.canon(h:H)(TB:List Nat)(t0:T Value)(t5:T Value)(h5:H):Cst:=
 let a:=TB.filterMap fun b=>match h5.get b with|some o=>some (b,o)|none=>none
 let ns:=(dedup (a.flatMap fun p=>namesO p.2) []).filter fun b=>Nat.blt h.next b
 ⟨a++ns.filterMap fun b=>match h5.get b with|some o=>some (b,sackify o)|none=>none,h5.next,T.meet t5 t0⟩
def Kys.fresh(TB:List Nat)(t0:T Value):List (List Nat×T Value×H)→List (List Nat×Cst)→List (List Nat×Cst)
 |[],acc=>acc
 |(S,t,h')::l,acc=>match acc.any (fun p=>permB Nat.beq p.1 S) with
  |true=>Kys.fresh TB t0 l acc
  |false=>Kys.fresh TB t0 l ((S,Kys.canon h TB t0 t h')::acc)
def Kys.goodB(TB:List Nat)(s:Cst):Bool:=s.okB h TB&&Nat.blt h.next s.nx&&(s.ms.all fun p=>!Nat.beq p.1 h.next)&&(match s.t.get c.d5 with|some v=>eqV v (Kys.ptr h)|none=>false)
def Kys.nextW(TB:List Nat)(os:List (List Nat×T Value×H))(sts':List (List Nat×Cst)):Option (List (List Nat×Cst)):=
 match(sts'.all fun p=>Kys.goodB c h TB p.2),(os.all fun y=>sts'.any fun p=>permB Nat.beq p.1 y.1&&subTab eqV y.2.1 p.2.t&&p.2.takesB leqB h TB y.2.2) with
 |true,true=>some sts'
 |_,_=>none
def Kys.goO(es:List MapEntry)(TB:List Nat)(t0:T Value):Nat→List (List Nat×Cst)→Option Cst
 |0,sts=>match sts with
  |[(S,s)]=>match es.all fun e=>Kys.has S e.born with
   |true=>some s
   |false=>none
  |_=>none
 |k+1,sts=>match Kys.outs P inv c f n h es sts with
  |some os=>match Kys.nextW c h TB os (Kys.fresh h TB t0 os []) with
   |some sts'=>Kys.goO es TB t0 k sts'
   |none=>none
  |none=>none
def Kys.st0(TB:List Nat)(t0:T Value):Cst:=⟨TB.filterMap fun b=>match h.get b with|some o=>some (b,o)|none=>none,h.next+1,t0⟩
end
theorem Cst.At.touch{s:Cst}{ρ0 ρ:Nms}{h0:H}{w0 w w1:World}{TB:List Nat}(A:s.At ρ0 h0 w0 TB ρ w){r:Nat}(hr:w0.heap.size≤r)(hs:w1.heap.size=w.heap.size)(hk:∀x,x≠r→w1.heap[x]?=w.heap[x]?)(hn:∀b k,((s.h0 h0).get b).isSome=true→ρ b≠.at_ r k)(ht:NoNum w1):s.At ρ0 h0 w0 TB ρ w1:=by
 obtain⟨l,e,f,o,q⟩:=A.stp.log
 refine⟨⟨A.stp.le,A.stp.next,A.stp.born,by rw[hs];exact A.stp.size,l,e,fun x ox hx hm=>?_,o,q⟩,ht,fun b ob hb=>?_,A.hr.inj⟩
 .rw[hk x fun e1=>?_]
  .exact f x ox hx hm
  .have:=(Array.getElem?_eq_some_iff.1 hx).1;omega
 .obtain⟨x,k,o',h1,h2,h3⟩:=A.hr.ob b ob hb
  refine⟨x,k,o',h1,?_,h3⟩
  rw[hk x fun e1=>?_]
  .exact h2
  .subst e1;exact hn b k (by rw[hb];rfl) h1
theorem setBlock_same{w:World}{r:Nat}{o o':Obj}(h:w.heap[r]?=some o):(setBlock w r o').heap[r]?=some o':=by
 have:=(Array.getElem?_eq_some_iff.1 h).1
 simp[setBlock,this]
theorem setBlock_other{w:World}{r x:Nat}{o':Obj}(h:x≠r):(setBlock w r o').heap[x]?=w.heap[x]?:=by
 simp only[setBlock]
 rw[Array.getElem?_setIfInBounds_ne (Ne.symm h)]
theorem wanted_none{o:Oper}{ops:Array Oper}{tm:Array Value}(h:o.guard=none):Region.wanted o (yielded ops tm)=true:=by unfold Region.wanted;rw[h]
theorem Kys.has_mem{S:List Nat}{b:Nat}:Kys.has S b=true↔b∈S:=by
 unfold Kys.has
 rw[List.any_eq_true]
 constructor
 .rintro⟨c,h1,h2⟩
  rw[←Nat.eq_of_beq_eq_true h2];exact h1
 .exact fun h=>⟨b,h,by simp⟩
structure Kys.At(f:FuncId)(n:Nat)(h:H)(ρ0:Nms)(w0:World)(TB:List Nat)(m mA clock r:Nat)(S:List Nat)(s:Cst)(ρ:Nms)(b:Frame)(a:Act)(w:World):Prop where
 A:s.At ρ0 h w0 TB ρ w
 sits:Sits ρ f n none ⟨s.t,s.h0 h,[]⟩ b a
 iter:∃seen:Array Nat,Lonely ρ (s.h0 h) h.next r (.mapIter (some mA) clock seen clock) w∧seen.toList.Perm S
 mN:∃k,ρ m=.at_ mA k
structure Kys.Good(c:Kys)(h:H)(TB:List Nat)(s:Cst):Prop where
 ok:s.OK h TB
 next:h.next<s.nx
 free:∀p∈s.ms,p.1≠h.next
 d5:s.t.get c.d5=some (Kys.ptr h)
theorem Kys.good_of{c:Kys}{h:H}{TB:List Nat}{s:Cst}(e:Kys.goodB c h TB s=true):Kys.Good c h TB s:=by
 unfold Kys.goodB at e
 simp only[Bool.and_eq_true] at e
 obtain⟨⟨⟨h1,h2⟩,h3⟩,h4⟩:=e
 refine⟨Cst.ok_of h1,by rwa[Nat.blt_eq] at h2,fun p hp=>?_,?_⟩
 .have:=List.all_eq_true.1 h3 p hp
  intro e1
  rw[e1] at this
  simp at this
 .split at h4
  .rename_i v hv;rw[hv,eqV_eq h4]
  .cases h4
theorem ptr_eval{ρ:Nms}{n d r:Nat}{h:H}{t:T Value}{a:Act}(ht:TR ρ n t a.tmps)(hd:t.get d=some (Kys.ptr h))(hn:ρ h.next=.at_ r 0):a.eval (.tmp d)=.pointer (some ⟨r,0,none⟩):=by
 obtain⟨v',h1,h2⟩:=ht.get d _ hd
 obtain⟨⟨x,o,sp⟩,rfl,ha⟩:=VR.inv_ptr h2
 have hb:=ha.block.at_ hn
 have ho:=ha.off
 have hs:=ha.spot'
 simp only at hb ho hs
 subst hb ho hs
 show a.tmps.getD d undef=_
 rw[Array.getD_eq_getD_getElem?,h1]
 rfl
theorem flatE_mem{es:List MapEntry}(h:flatE es=true){e:MapEntry}(he:e∈es):flat e.key=true∧flat e.val=true:=by
 unfold flatE at h
 have:=List.all_eq_true.1 h e he
 split at this
 .rename_i h1;exact⟨h1,this⟩
 .cases this
set_option maxHeartbeats 2000000 in
theorem Kys.round(hI:IvOK P inv)(hD:DrawnOK P inv){c:Kys}{f:FuncId}(hc:c.OK P f){n:Nat}{h:H}{ρ0:Nms}{w0:World}{TB:List Nat}{m mA clock r hi:Nat}{es:List MapEntry}(hr0:HR ρ0 h w0)(hu:Unb ρ0 h.next hi)(hm:h.get m=some (.map es clock))(hmT:m∉TB)(hborn:∀e∈es,e.born<clock)(hnd:(es.map (·.born)).Nodup)(hfl:flatE es=true)(hr1:w0.heap.size≤r){S:List Nat}{s:Cst}{ρ:Nms}{b:Frame}{a:Act}{w:World}(K:Kys.At f n h ρ0 w0 TB m mA clock r S s ρ b a w)(G:Kys.Good c h TB s)(hhi:s.nx≤hi){k:List Item}{cs:List Frame}(hleft:∃e∈es,e.born∉S):∃e∈es,e.born∉S∧∀t5 h5,Kys.outO P inv c f n h s e=some (t5,h5)→h5.next≤hi→∀S' s',S'.Perm (S++[e.born])→Kys.Good c h TB s'→s'.nx≤hi→subTab eqV t5 s'.t=true→s'.Takes h TB h5→∃ρ' a' w',Steps P (lone (b.atR a (.code c.lb::.inLoop c.lb::k)) cs w) (lone (b.atR a' (.code c.lb::.inLoop c.lb::k)) cs w')∧Kys.At f n h ρ0 w0 TB m mA clock r S' s' ρ' b a' w':=by
 obtain⟨A,hs,⟨seen,Lo,hseen⟩,⟨kA,hmN⟩⟩:=K
 have hnx:=G.ok.next
 have hb0:∀x o,h.get x=some o→x<h.next∨hi≤x:=fun x o hx=>by
  obtain⟨y,kx,o',q1,_⟩:=hr0.ob x o hx
  by_cases hlt:h.next≤x∧x<hi
  .rw[hu x hlt.1 hlt.2] at q1;cases q1
  .omega
 have hgm:∀(s:Cst),Kys.Good c h TB s→s.nx≤hi→(s.h0 h).get m=some (.map es clock):=fun s G hs=>by
  have:=hb0 m _ hm
  exact(Cst.get_other G.ok hmT (by omega)).trans hm
 have hgI:∀(s:Cst),Kys.Good c h TB s→s.nx≤hi→(s.h0 h).get h.next=none:=fun s G hs=>by
  have h1:(s.h0 h).get h.next=h.get h.next:=modT_not G.ok.low G.free
  rw[h1]
  cases hx:h.get h.next with
  |none=>rfl
  |some o=>
   have:=hb0 _ _ hx
   have:=G.next
   omega
 obtain⟨x,kx,om,m1,m2,rfl,_⟩:=A.hr.ob m _ (hgm s G hhi)
 rw[hmN] at m1
 cases m1
 have hev:a.eval (.tmp c.d5)=.pointer (some ⟨r,0,none⟩):=ptr_eval hs.tmps G.d5 Lo.name
 have hcases:=run_next_at (P:=P) w c.oN.type r mA clock clock seen ⟨es⟩ clock Lo.obj m2 (fun x hx=>hborn x hx) (Nat.le_refl _)
 have hleft':¬(leftOf ⟨es⟩ seen).size=0:=by
  obtain⟨e,he,hb⟩:=hleft
  intro h0
  have hmem:e∈leftOf ⟨es⟩ seen:=by
   unfold leftOf
   rw[Array.mem_filter]
   refine⟨by simpa using he,?_⟩
   have:e.born∉seen:=fun hx=>hb (hseen.mem_iff.1 (by simpa using hx))
   simpa using this
  rw[Array.eq_empty_of_size_eq_zero h0] at hmem
  simp at hmem
 rcases hcases with⟨h0,_⟩|⟨e,heL,w',hw',hrun⟩
 .exact absurd h0 hleft'
 have he:e∈es∧e.born∉seen:=by
  unfold leftOf at heL
  simpa using heL
 refine⟨e,he.1,fun hx=>he.2 (by simpa using hseen.mem_iff.2 hx),fun t5 h5 hout hh5 S' s' hS' G' hhi' hsub tk=>?_⟩
 obtain⟨fk,fv⟩:=flatE_mem hfl he.1
 unfold Kys.outO at hout
 split at hout
 case h_2=>cases hout
 rename_i tN etN
 split at hout
 case h_2=>cases hout
 rename_i t2 h2 e2
 split at hout
 case h_2=>cases hout
 rename_i hl2 e7
 split at hout
 case h_2=>cases hout
 rename_i t3 et3 ed5
 split at hout
 case h_2=>cases hout
 rename_i t4 h4 e4
 split at hout
 case h_2=>cases hout
 rename_i t5' h5' e5
 cases hout
 have hd52:t2.get c.d5=some (Kys.ptr h):=by
  split at ed5
  .rename_i v hv;rw[hv,eqV_eq ed5]
  .cases ed5
 have n2:=ops_next hI.next e2
 have n4:=ops_next hI.next e4
 obtain⟨n5,r5⟩:=code_ok hI hD c.cR _ _ e5
 have n2:s.nx≤h2.next:=n2
 have n5:h4.next≤h5.next:=n5
 generalize hw1:setBlock w' r (.mapIter (some mA) clock (seen.push e.born) clock)=w1 at hrun
 have hw'h:w'.heap=w.heap:=by rcases hw' with rfl|rfl<;>rfl
 have hrw':w'.heap[r]?=some (.mapIter (some mA) clock seen clock):=by rw[hw'h];exact Lo.obj
 have hw1r:w1.heap[r]?=some (.mapIter (some mA) clock (seen.push e.born) clock):=by rw[←hw1];exact setBlock_same hrw'
 have hw1o:∀x,x≠r→w1.heap[x]?=w.heap[x]?:=fun x hx=>by rw[←hw1,setBlock_other hx,hw'h]
 have hw1s:w1.heap.size=w.heap.size:=by rw[←hw1];simp[setBlock,hw'h]
 have hstep1:=step_gives (P:=P) (b:=b) (a:=a) (k:=.code (.seq (.cond c.c7 .skip (.exit c.bid)) (.block c.bid1 c.inner))::.inLoop c.lb::k) (cs:=cs) (w:=w) (w':=w1) (ops:=⟨c.oN::c.ops1⟩) (i:=0) (rest:=List.range' 1 c.ops1.length) (o:=c.oN) (N:=.value (.tuple #[.bool true,e.key,e.val])) (v:=.tuple #[.bool true,e.key,e.val]) rfl (wanted_none hc.gN)
  (fun d hd=>by rw[hc.opN] at hd;cases hd) (by
   have:(do pure (.value (← Instr.next (a.eval (.tmp c.d5)) false c.oN.type)):Sem Next).run P w=.ok (.value (.tuple #[.bool true,e.key,e.val])) w1:=by
    simp[hev,hrun]
   unfold execOp
   rw[hc.opN]
   exact this) (.inl rfl)
 rw[hc.dN] at hstep1
 have hvN:VR ρ (.tuple ⟨[.bool true,e.key,e.val]⟩) (.tuple #[.bool true,e.key,e.val]):=flat_self (by simp[flat,flats,fk,fv])
 have trN:TR ρ n tN (a.put (some c.d6) (.tuple #[.bool true,e.key,e.val])).tmps:=hs.tmps.put etN hvN
 have A1:s.At ρ0 h w0 TB ρ w1:=A.touch hr1 hw1s hw1o (fun b k hb hx=>Lo.apart b k hb hx) (A.hr.tame.set hw1r hw1o rfl)
 have Lo1:Lonely ρ (s.h0 h) h.next r (.mapIter (some mA) clock (seen.push e.born) clock) w1:=⟨Lo.name,Lo.apart,hw1r⟩
 have huS:Unb ρ s.nx hi:=A1.unb G.ok hu
 generalize ha1:a.put (some c.d6) (.tuple #[.bool true,e.key,e.val])=a1 at *
 have hda1:a1.defers=a.defers:=by rw[←ha1,put_defers]
 obtain⟨ρ2,a2,w2,p1,p2,p3,p4,p5⟩:=ops_ok (b:=b) (k:=.code (.seq (.cond c.c7 .skip (.exit c.bid)) (.block c.bid1 c.inner))::.inLoop c.lb::k) (cs:=cs) hI (ops:=⟨c.oN::c.ops1⟩) (i:=1) rfl e2 trN A1.hr (huS.sub (Nat.le_refl _) (by show h2.next≤hi;omega))
 have hcond:a2.eval c.c7=.bool true:=(env_of p5 _ _ e7).inv_bool
 have Lo2:=Lo1.step p3 (huS.sub (Nat.le_refl _) (by show h2.next≤hi;omega)) (hgI s G hhi) G.next
 have hev2:a2.eval (.tmp c.d5)=.pointer (some ⟨r,0,none⟩):=ptr_eval p5 hd52 Lo2.name
 obtain⟨l2,el2,_,_,_,hget2,hsame2⟩:=id p3.log
 have hl2':l2=[]:=by
  have el2:h2.log=l2++[]:=el2
  rw[hl2] at el2
  simpa using el2.symm
 subst hl2'
 have hmN2:ρ2 m=.at_ mA kA:=by rw[hsame2 m (by simp) (by rw[hmN];exact fun h=>by cases h)];exact hmN
 have hgm2:h2.get m=some (.map es clock):=by rw[hget2 m (by simp)];exact hgm s G hhi
 obtain⟨x2,kx2,om2,m21,m22,rfl,_⟩:=p4.ob m _ hgm2
 rw[hmN2] at m21
 cases m21
 have hrunE:=run_entry_at (P:=P) w2 r mA clock seen ⟨es⟩ clock e Lo2.obj m22 he.1 hnd
 have hstep2:=step_gives (P:=P) (b:=b) (a:=a2) (k:=.code c.cR::.inBlock c.bid1::.inLoop c.lb::k) (cs:=cs) (w:=w2) (w':=w2) (ops:=⟨c.oE::c.ops2⟩) (i:=0) (rest:=List.range' 1 c.ops2.length) (o:=c.oE) (N:=.value (.tuple #[e.key,e.val])) (v:=.tuple #[e.key,e.val]) rfl (wanted_none hc.gE)
  (fun d hd=>by rw[hc.opE] at hd;cases hd) (by
   have:(do pure (.value (← Instr.entry (a2.eval (.tmp c.d5)))):Sem Next).run P w2=.ok (.value (.tuple #[e.key,e.val])) w2:=by
    simp[hev2,hrunE]
   unfold execOp
   rw[hc.opE]
   exact this) (.inl rfl)
 rw[hc.dE] at hstep2
 have hvE:VR ρ2 (.tuple ⟨[e.key,e.val]⟩) (.tuple #[e.key,e.val]):=flat_self (by simp[flat,flats,fk,fv])
 have tr3:TR ρ2 n t3 (a2.put (some c.d8) (.tuple #[e.key,e.val])).tmps:=p5.put et3 hvE
 generalize ha3:a2.put (some c.d8) (.tuple #[e.key,e.val])=a3 at *
 have hda3:a3.defers=a2.defers:=by rw[←ha3,put_defers]
 have hu2:Unb ρ2 h2.next hi:=(huS.sub n2 (Nat.le_refl _)).step p3 (Nat.le_refl _)
 obtain⟨ρ4,a4,w4,q1,q2,q3,q4,q5⟩:=ops_ok (b:=b) (k:=.code c.cR::.inBlock c.bid1::.inLoop c.lb::k) (cs:=cs) hI (ops:=⟨c.oE::c.ops2⟩) (i:=1) rfl e4 tr3 p4 (hu2.sub (Nat.le_refl _) (by omega))
 have hu4:Unb ρ4 h4.next hi:=(hu2.sub n4 (Nat.le_refl _)).step q3 (Nat.le_refl _)
 obtain⟨ρ5,a5,w5,g1,g2,g3,g4⟩:=r5 ρ4 b a4 (.inBlock c.bid1::.inLoop c.lb::k) cs w4 ⟨hs.fn_,hs.kind,hs.rd_.mono (p3.le.trans q3.le),q5,by rw[q2,hda3,p2,hda1];exact hs.marks.mono (p3.le.trans q3.le)⟩ q4 (hu4.sub (Nat.le_refl _) hh5)
 have g1:Steps P _ _:=g1
 have hall:Stp ρ (s.h0 h) w1 ρ5 h5 w5:=(p3.trans q3).trans g2
 have A5:=A1.step G.ok G'.ok hr0 hu hhi' hall g3 tk
 have Lo5:=(Lo1.step hall (huS.sub (Nat.le_refl _) hh5) (hgI s G hhi) G.next).less (tk.known G.ok G'.ok hr0 hu hhi' hall)
 refine⟨ρ5,a5,w5,?_,A5,⟨g4.fn_,g4.kind,g4.rd_,g4.tmps.subTab hsub,g4.marks⟩,⟨_,Lo5,?_⟩,⟨kA,?_⟩⟩
 .have hr1:List.range (⟨c.oN::c.ops1⟩:Array Oper).size=0::List.range' 1 c.ops1.length:=by rw[List.range_eq_range'];simp[List.range'_succ]
  have hr2:List.range (⟨c.oE::c.ops2⟩:Array Oper).size=0::List.range' 1 c.ops2.length:=by rw[List.range_eq_range'];simp[List.range'_succ]
  refine .head stepR_seq (.head stepR_region ?_)
  rw[hr1]
  refine .head hstep1 (p1.trans (.head stepR_seq (.head (stepR_cond hcond) (.head stepR_skip (.head stepR_block (.head stepR_seq (.head stepR_region ?_)))))))
  rw[hr2]
  exact .head hstep2 (q1.trans (g1.trans (.head stepR_inBlock (.one stepR_inLoop))))
 .have:(seen.push e.born).toList=seen.toList++[e.born]:=by simp
  rw[this]
  exact(hseen.append_right [e.born]).trans hS'.symm
 .obtain⟨l,el,_,_,_,_,hsame⟩:=hall.log
  have el:h5.log=l++[]:=el
  rw[List.append_nil] at el
  rw[hsame m (fun hml=>?_) (by rw[hmN];exact fun h=>by cases h)]
  .exact hmN
  .rcases tk.log m (by rw[el];exact hml) with h1|h1
   .exact hmT h1
   .have:=hb0 m _ hm;omega
section
variable{c:Kys}{f:FuncId}{n:Nat}{h:H}
theorem Kys.outsT_mem{S:List Nat}{s:Cst}:∀{es:List MapEntry} {r:List (List Nat×T Value×H)},Kys.outsT P inv c f n h S s es=some r→∀e∈es,e.born∉S→∃t h',Kys.outO P inv c f n h s e=some (t,h')∧(S++[e.born],t,h')∈r
 |[],r,hr,e,he,_=>by simp at he
 |x::es,r,hr,e,he,hb=>by
  simp only[Kys.outsT] at hr
  split at hr
  .rename_i hx
   rcases List.mem_cons.1 he with rfl|he
   .exact absurd (Kys.has_mem.1 hx) hb
   .exact Kys.outsT_mem hr e he hb
  .split at hr
   .rename_i t h' r' e1 e2
    cases hr
    rcases List.mem_cons.1 he with rfl|he
    .exact⟨t,h',e1,List.mem_cons_self ..⟩
    .obtain⟨t2,h2,g1,g2⟩:=Kys.outsT_mem e2 e he hb
     exact⟨t2,h2,g1,List.mem_cons_of_mem _ g2⟩
   .cases hr
theorem Kys.outs_mem{es:List MapEntry}:∀{l:List (List Nat×Cst)} {r:List (List Nat×T Value×H)},Kys.outs P inv c f n h es l=some r→∀p∈l,(∃e∈es,e.born∉p.1)∧∀e∈es,e.born∉p.1→∃t h',Kys.outO P inv c f n h p.2 e=some (t,h')∧(p.1++[e.born],t,h')∈r
 |[],r,hr,p,hp=>by simp at hp
 |(S,s)::l,r,hr,p,hp=>by
  simp only[Kys.outs] at hr
  split at hr
  .rename_i a b e0 e1 e2
   cases hr
   rcases List.mem_cons.1 hp with h1|h1
   .subst h1
    refine⟨?_,fun e he hb=>?_⟩
    .rw[List.all_eq_false] at e0
     obtain⟨e,he,hb⟩:=e0
     exact⟨e,he,fun hx=>hb (Kys.has_mem.2 hx)⟩
    .obtain⟨t,h',g1,g2⟩:=Kys.outsT_mem e1 e he hb
     exact⟨t,h',g1,List.mem_append_left _ g2⟩
   .obtain⟨g0,g⟩:=Kys.outs_mem e2 p h1
    refine⟨g0,fun e he hb=>?_⟩
    obtain⟨t,h',g1,g2⟩:=g e he hb
    exact⟨t,h',g1,List.mem_append_right _ g2⟩
  .cases hr
theorem natPerm{a b:List Nat}(h:permB Nat.beq a b=true):a.Perm b:=permB_perm natBeq_eq h
theorem Kys.out_next(hI:IvOK P inv)(hD:DrawnOK P inv){s:Cst}{e:MapEntry}{t:T Value}{h':H}(e1:Kys.outO P inv c f n h s e=some (t,h')):s.nx≤h'.next:=by
 unfold Kys.outO at e1
 split at e1
 case h_2=>cases e1
 split at e1
 case h_2=>cases e1
 rename_i e2
 split at e1
 case h_2=>cases e1
 split at e1
 case h_2=>cases e1
 split at e1
 case h_2=>cases e1
 rename_i e4
 split at e1
 case h_2=>cases e1
 rename_i e5
 cases e1
 have n2:=ops_next hI.next e2
 have n4:=ops_next hI.next e4
 obtain⟨n5,_⟩:=code_ok hI hD c.cR _ _ e5
 have n2:s.nx≤_:=n2
 exact Nat.le_trans n2 (Nat.le_trans n4 n5)
theorem Kys.go_le(hI:IvOK P inv)(hD:DrawnOK P inv){es:List MapEntry}{TB:List Nat}{t0:T Value}:∀{k:Nat} {sts:List (List Nat×Cst)} {sF:Cst},Kys.goO P inv c f n h es TB t0 k sts=some sF→∀p∈sts,p.2.nx≤sF.nx
 |0,sts,sF,hg,p,hp=>by
  simp only[Kys.goO] at hg
  split at hg
  .split at hg
   .cases hg
    obtain rfl:=List.mem_singleton.1 hp
    exact Nat.le_refl _
   .cases hg
  .cases hg
 |k+1,sts,sF,hg,p,hp=>by
  simp only[Kys.goO] at hg
  split at hg
  case h_2=>cases hg
  rename_i os eo
  split at hg
  case h_2=>cases hg
  rename_i sts' e1
  unfold Kys.nextW at e1
  split at e1
  case h_2=>cases e1
  rename_i g1 g2
  generalize Kys.fresh h TB t0 os []=sN at *
  cases e1
  obtain⟨⟨e,he,hb⟩,hout⟩:=Kys.outs_mem eo p hp
  obtain⟨t,h',q1,q2⟩:=hout e he hb
  have:=List.all_eq_true.1 g2 _ q2
  obtain⟨p',hp',hx⟩:=List.any_eq_true.1 this
  simp only[Bool.and_eq_true] at hx
  have tk:=Cst.takes_of leqB_leq hx.2
  exact Nat.le_trans (Kys.out_next hI hD q1) (Nat.le_trans tk.next (Kys.go_le hI hD hg p' hp'))
theorem Kys.rounds(hI:IvOK P inv)(hD:DrawnOK P inv)(hc:c.OK P f){ρ0:Nms}{w0:World}{TB:List Nat}{t0:T Value}{m mA clock r hi:Nat}{es:List MapEntry}(hr0:HR ρ0 h w0)(hu:Unb ρ0 h.next hi)(hm:h.get m=some (.map es clock))(hmT:m∉TB)(hborn:∀e∈es,e.born<clock)(hnd:(es.map (·.born)).Nodup)(hfl:flatE es=true)(hr1:w0.heap.size≤r){b:Frame}{kk:List Item}{cs:List Frame}:∀(k:Nat) (sts:List (List Nat×Cst)) (sF:Cst),Kys.goO P inv c f n h es TB t0 k sts=some sF→sF.nx≤hi→(∀p∈sts,Kys.Good c h TB p.2)→∀p∈sts,∀(ρ:Nms) (a:Act) (w:World),Kys.At f n h ρ0 w0 TB m mA clock r p.1 p.2 ρ b a w→∃S ρ' a' w',Steps P (lone (b.atR a (.code c.lb::.inLoop c.lb::kk)) cs w) (lone (b.atR a' (.code c.lb::.inLoop c.lb::kk)) cs w')∧Kys.At f n h ρ0 w0 TB m mA clock r S sF ρ' b a' w'∧(∀e∈es,e.born∈S)∧Kys.Good c h TB sF
 |0,sts,sF,hg,hhi,hG,p,hp,ρ,a,w,K=>by
  simp only[Kys.goO] at hg
  split at hg
  .rename_i S s
   split at hg
   .rename_i hall
    cases hg
    obtain rfl:=List.mem_singleton.1 hp
    exact⟨S,ρ,a,w,.refl _ _,K,fun e he=>Kys.has_mem.1 (List.all_eq_true.1 hall e he),hG _ hp⟩
   .cases hg
  .cases hg
 |k+1,sts,sF,hg,hhi,hG,p,hp,ρ,a,w,K=>by
  have hle:=Kys.go_le hI hD hg p hp
  simp only[Kys.goO] at hg
  split at hg
  case h_2=>cases hg
  rename_i os eo
  split at hg
  case h_2=>cases hg
  rename_i sts' e1
  unfold Kys.nextW at e1
  split at e1
  case h_2=>cases e1
  rename_i g1 g2
  generalize Kys.fresh h TB t0 os []=sN at *
  cases e1
  obtain⟨hleft,hout⟩:=Kys.outs_mem eo p hp
  obtain⟨e,he,hb,hR⟩:=Kys.round (cs:=cs) (k:=kk) hI hD hc hr0 hu hm hmT hborn hnd hfl hr1 K (hG p hp) (by omega) hleft
  obtain⟨t,h',q1,q2⟩:=hout e he hb
  have:=List.all_eq_true.1 g2 _ q2
  obtain⟨p',hp',hx⟩:=List.any_eq_true.1 this
  simp only[Bool.and_eq_true] at hx
  have tk:=Cst.takes_of leqB_leq hx.2
  have hle':=Kys.go_le hI hD hg p' hp'
  have hG':∀p∈sts',Kys.Good c h TB p.2:=fun p hp=>Kys.good_of (List.all_eq_true.1 g1 p hp)
  have htn:=tk.next
  obtain⟨ρ1,a1,w1,s1,K1⟩:=hR t h' q1 (by omega) p'.1 p'.2 (natPerm hx.1.1) (hG' p' hp') (by omega) hx.1.2 tk
  obtain⟨S,ρ2,a2,w2,s2,K2,r1,r2⟩:=Kys.rounds hI hD hc hr0 hu hm hmT hborn hnd hfl hr1 (b:=b) (kk:=kk) (cs:=cs) k sts' sF hg hhi hG' p' hp' ρ1 a1 w1 K1
  exact⟨S,ρ2,a2,w2,s1.trans s2,K2,r1,r2⟩
end
def Kys.start(P:Program)(inv:Iv)(c:Kys)(n:Nat)(args:List Value)(h:H):Option (T Value×Nat×List MapEntry×Nat):=
 match argsT 0 args .nil with
 |some ta=>match stillO P inv n [c.oL,c.oR] [c.oL] ta h with
  |some t1=>match t1.get c.d4,setT t1 n (some c.d5) (Kys.ptr h) with
   |some (.map (some m)),some t0=>match h.get m with
    |some (.map es clock)=>match flatE es,es.all (fun e=>Nat.blt e.born clock),nodupB (es.map (·.born)) with
     |true,true,true=>some (t0,m,es,clock)
     |_,_,_=>none
    |_=>none
   |_,_=>none
  |none=>none
 |none=>none
def Kys.touched(P:Program)(inv:Iv)(c:Kys)(f:FuncId)(n:Nat)(h:H)(t0:T Value):List MapEntry→Option (List Nat)
 |[]=>some []
 |e::_=>match Kys.outO P inv c f n h ⟨[],h.next+1,t0⟩ e with
  |some (_,h5)=>some ((dedup h5.log []).filter fun b=>Nat.blt b h.next)
  |none=>none
def Kys.finO(P:Program)(c:Kys)(h:H)(TB:List Nat)(sF:Cst)(t2:T Value)(h2:H):Option (Value×H):=
 match(Cst.mk sF.ms h2.next t2).okB h TB,(Cst.mk sF.ms h2.next t2).takesB leqB h TB h2 with
 |true,true=>leaveO P c.fn (.normal,⟨t2,⟨modT sF.ms h.t,h2.next,TB++List.range' h.next (h2.next-h.next)++h.log⟩,[]⟩)
 |_,_=>none
def Kys.evalO(P:Program)(inv:Iv)(c:Kys)(f:FuncId)(args:List Value)(h:H):Option (Value×H):=
 match Kys.start P inv c (args.length+(c.fn.ntmps-args.length)) args h with
 |some (t0,m,es,clock)=>match Kys.touched P inv c f (args.length+(c.fn.ntmps-args.length)) h t0 es with
  |some TB=>match Kys.has TB m,Kys.goodB c h TB (Kys.st0 h TB t0),Kys.goO P inv c f (args.length+(c.fn.ntmps-args.length)) h es TB t0 es.length [([],Kys.st0 h TB t0)] with
   |false,true,some sF=>match Kys.endO P inv c n0 h sF with
    |some (t2,h2)=>Kys.finO P c h TB sF t2 h2
    |none=>none
   |_,_,_=>none
  |none=>none
 |none=>none
where n0:Nat:=args.length+(c.fn.ntmps-args.length)
theorem Kys.st0_takes{h:H}{TB:List Nat}{t0:T Value}{h':H}(hg:∀b,h'.get b=h.get b)(hn:h'.next=h.next+1)(hl:h'.log=[]):(Kys.st0 h TB t0).Takes h TB h':=by
 refine⟨fun p hp=>?_,fun b hb=>by rw[hl] at hb;simp at hb,by rw[hn];exact Nat.le_refl _⟩
 obtain⟨b,_,hb⟩:=List.mem_filterMap.1 hp
 split at hb
 .rename_i o ho
  cases hb
  exact⟨o,by rw[hg];exact ho,.refl o⟩
 .cases hb
set_option maxHeartbeats 2000000 in
theorem Kys.does(hI:IvOK P inv)(hD:DrawnOK P inv){c:Kys}{f:FuncId}(hc:c.OK P f){args:List Value}{h h':H}{v:Value}(ev:c.evalO P inv f args h=some (v,h')):FuncDoes P f args h v h':=by
 unfold Kys.evalO Kys.evalO.n0 at ev
 generalize hn:args.length+(c.fn.ntmps-args.length)=n at ev
 split at ev
 case h_2=>cases ev
 rename_i t0 m es clock est
 split at ev
 case h_2=>cases ev
 rename_i TB eTB
 split at ev
 case h_2=>cases ev
 rename_i sF hmT hgood ego
 split at ev
 case h_2=>cases ev
 rename_i t2 h2 eend
 unfold Kys.start at est
 split at est
 case h_2=>cases est
 rename_i ta hta
 split at est
 case h_2=>cases est
 rename_i t1 et1
 split at est
 case h_2=>cases est
 rename_i m0 t0' hd4 et0
 split at est
 case h_2=>cases est
 rename_i es0 clock0 hm
 split at est
 case h_2=>cases est
 rename_i hfl hborn hnd
 cases est
 have hborn:∀e∈es,e.born<clock:=fun e he=>by
  have:=List.all_eq_true.1 hborn e he
  rwa[Nat.blt_eq] at this
 have hnd:=nodupB_ok hnd
 have hmT:m∉TB:=fun hx=>by rw[Kys.has_mem.2 hx] at hmT;cases hmT
 have G0:=Kys.good_of hgood
 unfold Kys.finO at ev
 split at ev
 case h_2=>cases ev
 rename_i hokE htkE
 have okE:=Cst.ok_of hokE
 have tkE:=Cst.takes_of leqB_leq htkE
 have htkn:h2.next≤h2.next:=tkE.next
 unfold Kys.endO at eend
 split at eend
 case h_2=>cases eend
 rename_i tN etN
 split at eend
 case h_2=>cases eend
 rename_i t2' h2' e2
 split at eend
 case h_2=>cases eend
 rename_i e7
 cases eend
 have n2:=ops_next hI.next e2
 have n2:sF.nx≤h2.next:=n2
 have hle:=Kys.go_le hI hD ego _ (List.mem_singleton.2 rfl)
 have hle:h.next+1≤sF.nx:=hle
 refine func_of_runs (x:=(.normal,⟨t2,⟨modT sF.ms h.t,h2.next,TB++List.range' h.next (h2.next-h.next)++h.log⟩,[]⟩)) hc.ff hc.fb hc.fname hta ?_ ev
 rw[hn]
 refine⟨by show h.next≤h2.next;omega,fun ρ b a k cs w hs hr hu=>?_⟩
 have hu:Unb ρ h.next h2.next:=hu
 have hb0:∀x o,h.get x=some o→x<h.next∨h2.next≤x:=fun x o hx=>by
  obtain⟨y,kx,o',q1,_⟩:=hr.ob x o hx
  by_cases hlt:h.next≤x∧x<h2.next
  .rw[hu x hlt.1 hlt.2] at q1;cases q1
  .omega
 obtain⟨ρ1,a1,w1,q1,q2,q3,q4,q5,q6⟩:=still_ok (b:=b) (k:=.code (.block c.bid (.loop c.lb))::k) (cs:=cs) (rest:=[1]) hI (ops:=#[c.oL,c.oR]) (l:=[c.oL]) (i:=0) (fun j hj=>by simp at hj;subst hj;rfl) et1 hs.tmps hr
 obtain⟨vm,gm1,gm2⟩:=q5.get _ _ hd4
 obtain⟨mr,rfl,hB⟩:=gm2.inv_map
 obtain⟨mA,kA,om,o1,o2,rfl,_⟩:=q4.ob m _ hm
 obtain rfl:=hB.at_ o1
 have hev:a1.eval (.tmp c.d4)=.map (some mr):=by
  show a1.tmps.getD c.d4 undef=_
  rw[Array.getD_eq_getD_getElem?,gm1]
  rfl
 have hstep:=step_gives (P:=P) (b:=b) (a:=a1) (k:=.code (.block c.bid (.loop c.lb))::k) (cs:=cs) (w:=w1) (w':=w1.alloc (.mapIter (some mr) clock #[] clock)) (ops:=#[c.oL,c.oR]) (i:=1) (rest:=[]) (o:=c.oR) (N:=.value (.pointer (some ⟨w1.heap.size,0,none⟩))) (v:=.pointer (some ⟨w1.heap.size,0,none⟩)) rfl (wanted_none hc.gR)
  (fun d hd=>by rw[hc.opR] at hd;cases hd) (by
   have:(do pure (.value (← Instr.range c.tM (a1.eval (.tmp c.d4)))):Sem Next).run P w1=.ok (.value (.pointer (some ⟨w1.heap.size,0,none⟩))) (w1.alloc (.mapIter (some mr) clock #[] clock)):=by
    simp[Instr.range,hev,run_underlying hc.und,getObj,Sem.run,o2]
   unfold execOp
   rw[hc.opR]
   exact this) (.inl rfl)
 rw[hc.dR] at hstep
 have hpush:(w1.alloc (.mapIter (some mr) clock #[] clock)).heap=w1.heap.push (.mapIter (some mr) clock #[] clock):=rfl
 have huI:ρ1 h.next=.unborn:=q3.born _ (hu _ (Nat.le_refl _) (by omega)) (.inr (Nat.le_refl _))
 obtain⟨s1,s2⟩:=reserve' q4 huI hpush rfl
 generalize hρ2:upd ρ1 h.next (.at_ w1.heap.size 0)=ρ2 at *
 generalize hw2:w1.alloc (.mapIter (some mr) clock #[] clock)=w2 at *
 have hw2r:w2.heap[w1.heap.size]?=some (.mapIter (some mr) clock #[] clock):=by rw[hpush];simp
 have hn2:ρ2 h.next=.at_ w1.heap.size 0:=by rw[←hρ2,upd_same]
 have st2:Stp ρ h w ρ2 ⟨h.t,h.next+1,h.log⟩ w2:=q3.trans s1
 have hrge:w.heap.size≤w1.heap.size:=q3.size
 have ok0:=G0.ok
 have tk0:(Kys.st0 h TB t0).Takes h TB ⟨h.t,h.next+1,[]⟩:=Kys.st0_takes (fun _=>rfl) rfl rfl
 have hr':HR ρ ⟨h.t,h.next,[]⟩ w:=⟨hr.tame,hr.ob,hr.inj⟩
 have st2':Stp ρ ⟨h.t,h.next,[]⟩ w ρ2 ⟨h.t,h.next+1,[]⟩ w2:=st2.offLog (l:=[]) rfl
 have s2':HR ρ2 ⟨h.t,h.next+1,[]⟩ w2:=⟨s2.tame,s2.ob,s2.inj⟩
 have hnxE:(Kys.st0 h TB t0).nx≤h2.next:=by show h.next+1≤h2.next;omega
 have A0:=Cst.At.start ok0 hr hu hnxE st2' s2' tk0
 have hap:∀b kb,(h.get b).isSome=true→ρ2 b≠.at_ w1.heap.size kb:=fun b kb hb hx=>by
  obtain⟨o,ho⟩:=Option.isSome_iff_exists.1 hb
  obtain⟨x,k1,o',g1,g2,_⟩:=q4.ob b o ho
  have hne:b≠h.next:=fun e1=>by
   subst e1
   rw[huI] at g1;cases g1
  rw[←hρ2,upd_other _ _ hne,g1] at hx
  cases hx
  have:=(Array.getElem?_eq_some_iff.1 g2).1
  omega
 have Lo:Lonely ρ2 ((Kys.st0 h TB t0).h0 h) h.next w1.heap.size (.mapIter (some mr) clock #[] clock) w2:=⟨hn2,fun b kb hb hx=>by
  obtain⟨o,ho⟩:=Option.isSome_iff_exists.1 hb
  have ho:(modT (Kys.st0 h TB t0).ms h.t).get b=some o:=ho
  rcases modT_mem ok0.low ho with h1|⟨_,h1⟩
  .obtain⟨o1,g1,_⟩:=tk0.ms _ h1
   have g1:h.get b=some o1:=g1
   exact hap b kb (by rw[g1];rfl) hx
  .have h1:h.get b=some o:=h1
   exact hap b kb (by rw[h1];rfl) hx,hw2r⟩
 have tr0:TR ρ2 n t0 (a1.put (some c.d5) (.pointer (some ⟨w1.heap.size,0,none⟩))).tmps:=(q5.mono s1.le).put et0 (.ptr ⟨by show BR ρ2 h.next w1.heap.size;unfold BR;rw[hn2],rfl,rfl,rfl⟩)
 generalize ha2:a1.put (some c.d5) (.pointer (some ⟨w1.heap.size,0,none⟩))=a2 at *
 have hda2:a2.defers=a.defers:=by rw[←ha2,put_defers,q2]
 have hmN2:ρ2 m=.at_ mr kA:=by
  have hne:m≠h.next:=fun e1=>by
   have:=hb0 m _ hm;omega
  rw[←hρ2,upd_other _ _ hne];exact o1
 have K0:Kys.At f n h ρ w TB m mr clock w1.heap.size [] (Kys.st0 h TB t0) ρ2 b a2 w2:=⟨A0,⟨hs.fn_,hs.kind,hs.rd_.mono st2.le,tr0,by rw[hda2];exact hs.marks.mono st2.le⟩,⟨#[],Lo,.refl _⟩,⟨kA,hmN2⟩⟩
 obtain⟨S,ρ3,a3,w3,p1,K3,hS,GF⟩:=Kys.rounds (b:=b) (kk:=.inBlock c.bid::k) (cs:=cs) hI hD hc hr hu hm hmT hborn hnd hfl hrge es.length _ sF ego n2 (fun p hp=>by obtain rfl:=List.mem_singleton.1 hp;exact G0) _ (List.mem_singleton.2 rfl) ρ2 a2 w2 K0
 obtain⟨A3,hs3,⟨seen,Lo3,hseen⟩,⟨kA3,hmN3⟩⟩:=K3
 have hgm3:(sF.h0 h).get m=some (.map es clock):=by
  have h0:=hb0 m _ hm
  have h1:m<h.next∨sF.nx≤m:=by omega
  exact(Cst.get_other GF.ok hmT h1).trans hm
 have hgI3:(sF.h0 h).get h.next=none:=by
  have h1:(sF.h0 h).get h.next=h.get h.next:=modT_not GF.ok.low GF.free
  rw[h1]
  cases hx:h.get h.next with
  |none=>rfl
  |some o=>
   have:=hb0 _ _ hx
   omega
 obtain⟨x3,kx3,om3,m31,m32,rfl,_⟩:=A3.hr.ob m _ hgm3
 rw[hmN3] at m31
 cases m31
 have hev3:a3.eval (.tmp c.d5)=.pointer (some ⟨w1.heap.size,0,none⟩):=ptr_eval hs3.tmps GF.d5 Lo3.name
 have hempty:leftOf ⟨es⟩ seen=#[]:=by
  unfold leftOf
  rw[Array.filter_eq_empty_iff]
  intro x hx
  have:x.born∈seen:=by simpa using hseen.mem_iff.2 (hS x (by simpa using hx))
  simpa using this
 rcases run_next_at (P:=P) w3 c.oN.type w1.heap.size mr clock clock seen ⟨es⟩ clock Lo3.obj m32 (fun x hx=>hborn x hx) (Nat.le_refl _) with⟨_,hrun⟩|⟨e,heL,_⟩
 case inr=>rw[hempty] at heL;simp at heL
 have hstep1:=step_gives (P:=P) (b:=b) (a:=a3) (k:=.code (.seq (.cond c.c7 .skip (.exit c.bid)) (.block c.bid1 c.inner))::.inLoop c.lb::.inBlock c.bid::k) (cs:=cs) (w:=w3) (w':=w3) (ops:=⟨c.oN::c.ops1⟩) (i:=0) (rest:=List.range' 1 c.ops1.length) (o:=c.oN) (N:=.value (.tuple #[.bool false])) (v:=.tuple #[.bool false]) rfl (wanted_none hc.gN)
  (fun d hd=>by rw[hc.opN] at hd;cases hd) (by
   have:(do pure (.value (← Instr.next (a3.eval (.tmp c.d5)) false c.oN.type)):Sem Next).run P w3=.ok (.value (.tuple #[.bool false])) w3:=by
    simp[hev3,hrun]
   unfold execOp
   rw[hc.opN]
   exact this) (.inl rfl)
 rw[hc.dN] at hstep1
 have trN:TR ρ3 n tN (a3.put (some c.d6) (.tuple #[.bool false])).tmps:=hs3.tmps.put etN (flat_self rfl)
 generalize ha4:a3.put (some c.d6) (.tuple #[.bool false])=a4 at *
 have hda4:a4.defers=a3.defers:=by rw[←ha4,put_defers]
 have hu3:Unb ρ3 sF.nx h2.next:=A3.unb GF.ok hu
 obtain⟨ρ4,a5,w4,g1,g2,g3,g4,g5⟩:=ops_ok (b:=b) (k:=.code (.seq (.cond c.c7 .skip (.exit c.bid)) (.block c.bid1 c.inner))::.inLoop c.lb::.inBlock c.bid::k) (cs:=cs) hI (ops:=⟨c.oN::c.ops1⟩) (i:=1) rfl e2 trN A3.hr hu3
 have hcond:a5.eval c.c7=.bool false:=(env_of g5 _ _ e7).inv_bool
 have AE:=A3.step GF.ok okE hr hu (Nat.le_refl _) g3 g4 tkE
 refine⟨ρ4,a5,w4,?_,AE.stp.onLog h.log,AE.hr.onLog,hs3.fn_,hs3.kind,hs3.rd_.mono g3.le,g5,by rw[g2,hda4];exact hs3.marks.mono g3.le⟩
 have hrg:List.range (⟨c.oN::c.ops1⟩:Array Oper).size=0::List.range' 1 c.ops1.length:=by rw[List.range_eq_range'];simp[List.range'_succ]
 have hrg0:List.range (#[c.oL,c.oR]:Array Oper).size=[0,1]:=rfl
 refine Steps.trans (.head stepR_seq (.head stepR_region ?_)) (Steps.trans p1 (.head stepR_seq (.head stepR_region ?_)))
 .rw[hrg0]
  exact q1.trans (.head hstep (.head stepR_region_end (.head stepR_block (.one stepR_loop))))
 .rw[hrg]
  refine .head hstep1 (g1.trans (.head stepR_seq (.head (stepR_cond hcond) (.one (stepR_exit ?_)))))
  simp[exitTo]
def kysHook(P:Program)(inv:Iv)(c:Kys)(f0:FuncId):FuncId→List Value→H→Option (Option (Value×H)):=fun f args h=>match Nat.beq f f0 with
 |true=>match c.evalO P inv f0 args h with
  |some r=>some (some r)
  |none=>none
 |false=>none
theorem kysHook_ok(hI:IvOK P inv)(hD:DrawnOK P inv){c:Kys}{f0:FuncId}(hc:c.OK P f0):HookOK P (kysHook P inv c f0):=fun f args h v h' e=>by
 unfold kysHook at e
 split at e
 .rename_i hf
  obtain rfl:=Nat.eq_of_beq_eq_true hf
  split at e
  .rename_i r er
   simp only[Option.some.injEq] at e
   subst e
   exact Kys.does hI hD hc er
  .cases e
 .cases e
end
section
variable{P:Program}
def Entry.askB(P:Program)(hk:Hook)(d nx:Nat)(e:Entry):Bool:=match quietV P hk d e.f e.args e.kn nx with
 |some v=>eqV v e.v
 |none=>false
theorem Entry.asked{hk:Hook}(hH:HookOK P hk){d nx:Nat}{e:Entry}(h:e.askB P hk d nx=true):e.ok P:=by
 unfold Entry.askB at h
 split at h
 .rename_i v hv
  obtain rfl:=eqV_eq h
  exact⟨quiet_ok hH hv,quietV_top hv⟩
 .cases h
theorem table_ok{hk:Hook}(hH:HookOK P hk){d nx:Nat}{es:List Entry}(h:es.all (fun e=>e.askB P hk d nx)=true):∀e∈es,e.ok P:=fun e he=>Entry.asked hH (List.all_eq_true.1 h e he)
def Made.askB(P:Program)(hk:Hook)(d:Nat)(e:Made):Bool:=freshV P hk d e.f e.args e.kn e.nx e.v e.born e.nx'&&(e.kn.all (fun p=>Nat.blt p.1 top)&&e.born.all (fun p=>Nat.blt p.1 top&&Nat.ble e.nx p.1&&Nat.blt p.1 e.nx'))
theorem Made.asked{hk:Hook}(hH:HookOK P hk){d:Nat}{e:Made}(h:e.askB P hk d=true):e.ok P:=by
 unfold Made.askB at h
 rw[Bool.and_eq_true] at h
 exact⟨fresh_ok hH h.1,h.2⟩
theorem all_two{α:Type}{p:α→Prop}{a b:List α}(h1:∀e∈a,p e)(h2:∀e∈b,p e):∀e∈a++b,p e:=fun e he=>(List.mem_append.1 he).elim (h1 e) (h2 e)
theorem all_one{α:Type}{p:α→Prop}{a:α}{l:List α}(h1:p a)(h2:∀e∈l,p e):∀e∈a::l,p e:=fun e he=>(List.mem_cons.1 he).elim (fun h=>h▸h1) (h2 e)
theorem all_none{α:Type}{p:α→Prop}:∀e∈([]:List α),p e:=fun e he=>by simp at he
end
section
variable{P:Program}{inv:Iv}
abbrev Lev:=List Pre×T Value×Nat
section
variable(P:Program)(inv:Iv)(c:Srt)(f:FuncId)(n:Nat)(h:H)(nb:Nat)(e:TypeId)(z:Nat)
def Srt.stepB(sts:List Pre)(t:T Value)(nx:Nat)(l':Lev):Bool:=
 match Srt.outs P inv c f n h nb e z t nx sts with
 |some os=>Srt.allTake h nb e z l'.1 l'.2.1 l'.2.2 os&&Nat.ble nx l'.2.2
 |none=>false
inductive Srt.Chain:Lev→List Lev→Prop
 |one (l:Lev):Srt.Chain l []
 |cons {l l':Lev} {ls:List Lev} (hs:∀p∈l.1,Srt.stepB P inv c f n h nb e z [p] l.2.1 l.2.2 l'=true) (hn:l.2.2≤l'.2.2) (hc:Srt.Chain l' ls):Srt.Chain l (l'::ls)
def Srt.last:Lev→List Lev→Lev
 |l,[]=>l
 |_,l'::ls=>Srt.last l' ls
end
section
variable{c:Srt}{f:FuncId}{n:Nat}{h:H}{nb:Nat}{e:TypeId}{z:Nat}
theorem Srt.Chain.le:∀{l:Lev} {ls:List Lev},Srt.Chain P inv c f n h nb e z l ls→l.2.2≤(Srt.last l ls).2.2
 |_,_,.one _=>Nat.le_refl _
 |_,_,.cons _ hn hc=>Nat.le_trans hn hc.le
theorem Srt.stepB_mem{sts:List Pre}{t:T Value}{nx:Nat}{l':Lev}(hs:Srt.stepB P inv c f n h nb e z sts t nx l'=true):nx≤l'.2.2∧∀p∈sts,p.2≠[]∧∀x q,(x,q)∈takes p.2→∃t' h',codeO P inv f n none c.lb ⟨t,⟨T.put T.deep h.t nb (some (.half (p.1++x) q e z)),nx,[]⟩,[]⟩=some (.normal,⟨t',h',[]⟩)∧subTab eqV t' l'.2.1=true∧∃p'∈l'.1,(Srt.st nb e z p' l'.2.2 l'.2.1).Takes h [nb] h':=by
 unfold Srt.stepB at hs
 split at hs
 case h_2=>cases hs
 rename_i os eo
 simp only[Bool.and_eq_true] at hs
 refine⟨Nat.le_of_ble_eq_true hs.2,fun p hp=>?_⟩
 obtain⟨hq0,hout⟩:=Srt.outs_mem eo p hp
 refine⟨hq0,fun x q hx=>?_⟩
 obtain⟨t2,h2,g1,g2⟩:=hout x q hx
 have hty:=List.all_eq_true.1 (show os.all _=true from hs.1) _ g2
 simp only[Bool.and_eq_true] at hty
 obtain⟨p',hp',htk⟩:=List.any_eq_true.1 hty.2
 exact⟨t2,h2,g1,hty.1,p',hp',Cst.takes_of leqB_leq htk⟩
theorem Srt.split{p:Pre}{nx:Nat}{t:T Value}(hb:nb<top)(hk:(h.get nb).isSome=true)(hnx:h.next≤nx){ρ0 ρ:Nms}{w0 w:World}(A:(Srt.st nb e z p nx t).At ρ0 h w0 [nb] ρ w)(hq0:p.2≠[]):∃x q,(x,q)∈takes p.2∧(Srt.st nb e z (p.1++x,q) nx t).At ρ0 h w0 [nb] ρ w:=by
 have hgp:((Srt.st nb e z p nx t).h0 h).get nb=some (.half p.1 p.2 e z):=by
  show(modT _ h.t).get nb=_
  simp only[Srt.st,modT]
  rw[T.get_put _ _ _ _ _ (top_deep hb),if_pos rfl]
 obtain⟨x0,k0,o',g1,g2,g3⟩:=A.hr.ob nb _ hgp
 obtain⟨x,q,hxq,g4⟩:=g3.halfTake hq0
 have okx:=Srt.st_ok (e:=e) (z:=z) (p:=(p.1++x,q)) (t:=t) hb hk hnx
 refine⟨x,q,hxq,A.known okx rfl ?_⟩
 have hgx:∀y,((Srt.st nb e z (p.1++x,q) nx t).h0 h).get y=if y=nb then some (.half (p.1++x) q e z) else h.get y:=fun y=>by
  show(modT _ h.t).get y=_
  simp only[Srt.st,modT]
  exact T.get_put _ _ _ _ _ (top_deep hb)
 have hgo:∀y,((Srt.st nb e z p nx t).h0 h).get y=if y=nb then some (.half p.1 p.2 e z) else h.get y:=fun y=>by
  show(modT _ h.t).get y=_
  simp only[Srt.st,modT]
  exact T.get_put _ _ _ _ _ (top_deep hb)
 have known:∀y,(((Srt.st nb e z (p.1++x,q) nx t).h0 h).get y).isSome=true→(((Srt.st nb e z p nx t).h0 h).get y).isSome=true:=fun y hy=>by
  rw[hgx] at hy
  rw[hgo]
  split at hy
  .rename_i ey;rw[if_pos ey];rfl
  .rename_i ey;rw[if_neg ey];exact hy
 refine⟨A.hr.tame,fun y oy hy=>?_,fun y y' m l l' h1 h2 h3 h4=>A.hr.inj y y' m l l' (known y h1) (known y' h2) h3 h4⟩
 rw[hgx] at hy
 split at hy
 .rename_i ey
  cases hy
  subst ey
  exact⟨x0,k0,o',g1,g2,g4⟩
 .rename_i ey
  exact A.hr.ob y oy (by rw[hgo,if_neg ey];exact hy)
set_option maxHeartbeats 1000000 in
theorem Srt.Chain.go(hI:IvOK P inv)(hD:DrawnOK P inv)(hb:nb<top)(hk:(h.get nb).isSome=true){ρ0:Nms}{w0:World}{hi:Nat}(hr0:HR ρ0 h w0)(hu:Unb ρ0 h.next hi){b:Frame}{kk:List Item}{cs:List Frame}:∀{l:Lev} {ls:List Lev},Srt.Chain P inv c f n h nb e z l ls→h.next≤l.2.2→(Srt.last l ls).2.2≤hi→∀p∈l.1,∀(ρ:Nms) (a:Act) (w:World),(Srt.st nb e z p l.2.2 l.2.1).At ρ0 h w0 [nb] ρ w→Sits ρ f n none ⟨l.2.1,(Srt.st nb e z p l.2.2 l.2.1).h0 h,[]⟩ b a→∃pF∈(Srt.last l ls).1,∃ρ' a' w',Steps P (lone (b.atR a (.code c.lb::.inLoop c.lb::kk)) cs w) (lone (b.atR a' (.code c.lb::.inLoop c.lb::kk)) cs w')∧(Srt.st nb e z pF (Srt.last l ls).2.2 (Srt.last l ls).2.1).At ρ0 h w0 [nb] ρ' w'∧Sits ρ' f n none ⟨(Srt.last l ls).2.1,(Srt.st nb e z pF (Srt.last l ls).2.2 (Srt.last l ls).2.1).h0 h,[]⟩ b a'
 |l,_,.one _,hnx,hhi,p,hp,ρ,a,w,A,hs=>⟨p,hp,ρ,a,w,.refl _ _,A,hs⟩
 |l,_,.cons (l':=l') (ls:=ls) hst hn hc,hnx,hhi,p,hp,ρ,a,w,A,hs=>by
  have hle:=hc.le
  have hhi':(Srt.last l' ls).2.2≤hi:=hhi
  obtain⟨_,hmem⟩:=Srt.stepB_mem (hst p hp)
  obtain⟨hq0,hout⟩:=hmem p (List.mem_singleton.2 rfl)
  obtain⟨x,q,hxq,Ax⟩:=Srt.split hb hk hnx A hq0
  obtain⟨t2,h2,hcode,hsub,p',hp',tk⟩:=hout x q hxq
  have okp:=Srt.st_ok (e:=e) (z:=z) (p:=p) (t:=l.2.1) hb hk hnx
  have okx:=Srt.st_ok (e:=e) (z:=z) (p:=(p.1++x,q)) (t:=l.2.1) hb hk hnx
  have ok':=Srt.st_ok (e:=e) (z:=z) (p:=p') (nx:=l'.2.2) (t:=l'.2.1) hb hk (Nat.le_trans hnx hn)
  obtain⟨m1,hR⟩:=code_ok hI hD c.lb _ _ hcode
  have hh2:h2.next≤l'.2.2:=tk.next
  have hux:Unb ρ l.2.2 hi:=A.unb okp hu
  obtain⟨ρ1,a1,w1,r1,r2,r3,r4⟩:=hR ρ b a (.inLoop c.lb::kk) cs w ⟨hs.fn_,hs.kind,hs.rd_,hs.tmps,hs.marks⟩ Ax.hr (hux.sub (Nat.le_refl _) (by show h2.next≤hi;omega))
  have r1:Steps P _ _:=r1
  have A':=Ax.step okx ok' hr0 hu (Nat.le_trans hle hhi') r2 r3 tk
  have hs':Sits ρ1 f n none ⟨l'.2.1,(Srt.st nb e z p' l'.2.2 l'.2.1).h0 h,[]⟩ b a1:=⟨r4.fn_,r4.kind,r4.rd_,r4.tmps.subTab hsub,r4.marks⟩
  obtain⟨pF,hpF,ρ2,a2,w2,s1,s2,s3⟩:=Srt.Chain.go hI hD hb hk hr0 hu (b:=b) (kk:=kk) (cs:=cs) hc (Nat.le_trans hnx hn) hhi' p' hp' ρ1 a1 w1 A' hs'
  exact⟨pF,hpF,ρ2,a2,w2,r1.trans (.head stepR_inLoop s1),s2,s3⟩
end
def Srt.endsB(P:Program)(inv:Iv)(c:Srt)(f:FuncId)(args:List Value)(h:H)(nb:Nat)(q:List (List Value))(e:TypeId)(z:Nat)(l lF:Lev)(pre:List Value)(v:Value)(nxE:Nat):Bool:=
 match argsT 0 args .nil,Nat.blt nb top,q with
 |some ta,true,_::_=>match codeO P inv f (args.length+(c.fn.ntmps-args.length)) none c.c0 ⟨ta,⟨h.t,h.next,[]⟩,[]⟩ with
  |some (.normal,⟨t0,h0,[]⟩)=>match h0.log,Nat.beq h0.next h.next,subTab eqV t0 l.2.1,Nat.beq l.2.2 h.next,(takes q).all (fun p=>l.1.any fun s=>eqVs p.1 s.1&&permB eqVs p.2 s.2) with
   |[],true,true,true,true=>match codeO P inv f (args.length+(c.fn.ntmps-args.length)) none c.lb ⟨lF.2.1,⟨T.put T.deep h.t nb (some (.half pre [] e z)),lF.2.2,[]⟩,[]⟩ with
    |some (.exit i,⟨t2,h2,[]⟩)=>match leaveO P c.fn (.normal,⟨t2,Srt.endH h nb e z pre nxE,[]⟩) with
     |some (u,h3)=>Nat.beq i c.bid&&(Cst.mk [(nb,.cells pre e (some z))] nxE t2).takesB leqB h [nb] h2&&eqV u v&&Nat.beq h2.next nxE&&c.fn.results.isEmpty
     |none=>false
    |_=>false
   |_,_,_,_,_=>false
  |_=>false
 |_,_,_=>false
theorem leave_none{fn:Func}{t:T Value}{hE h3:H}{u:Value}(hres:fn.results.isEmpty=true)(e:leaveO P fn (.normal,⟨t,hE,[]⟩)=some (u,h3)):h3=hE:=by
 unfold leaveO at e
 simp only[marksOff] at e
 split at e
 .cases e;rfl
 .cases e
set_option maxHeartbeats 1000000 in
theorem Srt.told(hI:IvOK P inv)(hD:DrawnOK P inv){c:Srt}{f:FuncId}(hc:c.OK P f){args:List Value}{h:H}{nb:Nat}{q:List (List Value)}{e:TypeId}{z:Nat}{l:Lev}{ls:List Lev}{pre:List Value}{v:Value}{nxE:Nat}(hg:h.get nb=some (.sack q e z))(hch:Srt.Chain P inv c f (args.length+(c.fn.ntmps-args.length)) h nb e z l ls)(hlast:(Srt.last l ls).1=[(pre,[])])(hends:Srt.endsB P inv c f args h nb q e z l (Srt.last l ls) pre v nxE=true):FuncDoes P f args h v (Srt.endH h nb e z pre nxE):=by
 unfold Srt.endsB at hends
 split at hends
 case h_2=>cases hends
 rename_i ta q1 q2 hta hb
 rw[Nat.blt_eq] at hb
 split at hends
 case h_2=>cases hends
 rename_i t0 h0 e0
 split at hends
 case h_2=>cases hends
 rename_i hl0 hn0 hsub0 hnx0 hall
 split at hends
 case h_2=>cases hends
 rename_i i t2 h2 ex
 split at hends
 case h_2=>cases hends
 rename_i u h3 elv
 simp only[Bool.and_eq_true] at hends
 obtain⟨⟨⟨⟨hbid,htk⟩,huv⟩,hnE⟩,hres⟩:=hends
 obtain rfl:=eqV_eq huv
 obtain rfl:=Nat.eq_of_beq_eq_true hnE
 have hn0:=Nat.eq_of_beq_eq_true hn0
 have hnx0:=Nat.eq_of_beq_eq_true hnx0
 obtain rfl:=Nat.eq_of_beq_eq_true hbid
 have tk:=Cst.takes_of leqB_leq htk
 have h3e:=leave_none hres elv
 rw[h3e] at elv
 have hk:(h.get nb).isSome=true:=by rw[hg];rfl
 obtain⟨m0,r0⟩:=code_ok hI hD c.c0 _ _ e0
 obtain⟨mx,rx⟩:=code_ok hI hD c.lb _ _ ex
 generalize hlF:Srt.last l ls=lF at *
 have mx:lF.2.2≤h2.next:=mx
 have hle:l.2.2≤lF.2.2:=by rw[←hlF];exact hch.le
 refine func_of_runs (x:=(.normal,⟨t2,Srt.endH h nb e z pre h2.next,[]⟩)) hc.ff hc.fb hc.fname hta ⟨by show h.next≤h2.next;omega,fun ρ b a k cs w hs hr hu=>?_⟩ elv
 have hu:Unb ρ h.next h2.next:=hu
 have hr':HR ρ ⟨h.t,h.next,[]⟩ w:=⟨hr.tame,hr.ob,hr.inj⟩
 obtain⟨ρ1,a1,w1,g1,g2,g3,g4⟩:=r0 ρ b a (.code (.block c.bid (.loop c.lb))::k) cs w ⟨hs.fn_,hs.kind,hs.rd_,hs.tmps,hs.marks⟩ hr' (hu.sub (Nat.le_refl _) (by show h0.next≤h2.next;omega))
 have g1:Steps P _ _:=g1
 obtain⟨l0,eL,_,_,_,hget,_⟩:=id g2.log
 have eL:h0.log=l0++[]:=eL
 rw[hl0] at eL
 have hl0':l0=[]:=by simpa using eL.symm
 subst hl0'
 have hget:∀y,h0.get y=h.get y:=fun y=>hget y (by simp)
 have hgnb:h0.get nb=some (.sack (q1::q2) e z):=by rw[hget];exact hg
 obtain⟨x0,k0,o',o1,o2,o3⟩:=g3.ob nb _ hgnb
 obtain⟨x,q',hxq,o4⟩:=o3.toHalf.halfTake (by simp)
 obtain⟨s,hsm,hse⟩:=List.any_eq_true.1 (List.all_eq_true.1 hall _ hxq)
 simp only[Bool.and_eq_true] at hse
 have hse1:x=s.1:=eqVs_eq hse.1
 have hse2:=permB_perm eqVs_eq' hse.2
 have o5:OR ρ1 k0 (.half s.1 s.2 e z) o':=by
  obtain⟨p,d,d2,r,z1,z2⟩:=o4
  rw[List.nil_append,hse1] at z2
  exact⟨p,d,d2,r,hse2.symm.trans z1,z2⟩
 have okx:=Srt.st_ok (e:=e) (z:=z) (p:=s) (nx:=h.next) (t:=l.2.1) hb hk (Nat.le_refl _)
 have hgx:∀y,((Srt.st nb e z s h.next l.2.1).h0 h).get y=if y=nb then some (.half s.1 s.2 e z) else h.get y:=fun y=>by
  show(modT _ h.t).get y=_
  simp only[Srt.st,modT]
  exact T.get_put _ _ _ _ _ (top_deep hb)
 have hrx:HR ρ1 ((Srt.st nb e z s h.next l.2.1).h0 h) w1:=by
  have known:∀y,(((Srt.st nb e z s h.next l.2.1).h0 h).get y).isSome=true→(h0.get y).isSome=true:=fun y hy=>by
   rw[hgx] at hy
   rw[hget]
   split at hy
   .rename_i ey;rw[ey,hg];rfl
   .exact hy
  refine⟨g3.tame,fun y oy hy=>?_,fun y y' m l l' h1 h2 h3 h4=>g3.inj y y' m l l' (known y h1) (known y' h2) h3 h4⟩
  rw[hgx] at hy
  split at hy
  .rename_i ey
   cases hy
   subst ey
   exact⟨x0,k0,o',o1,o2,o5⟩
  .rename_i ey
   exact g3.ob y oy (by rw[hget];exact hy)
 have hAx:(Srt.st nb e z s h.next l.2.1).At ρ h w [nb] ρ1 w1:=by
  refine⟨?_,hrx⟩
  refine g2.relog (h2:=(Srt.st nb e z s h.next l.2.1).h h [nb]) (l:=[]) (L:=[nb]++List.range' h.next (h.next-h.next)) (by rw[hl0];rfl) (by simp[Cst.h,Srt.st]) (by show h0.next≤h.next;omega) (fun b hb=>by simp at hb) (fun b hb'=>?_) fun b hb'=>?_
  .simp at hb'
   subst hb'
   exact .inl hk
  .have hb':b≠nb:=fun e1=>hb' (by simp[e1])
   have:=hgx b
   rw[if_neg hb'] at this
   exact this
 have hAx':(Srt.st nb e z s l.2.2 l.2.1).At ρ h w [nb] ρ1 w1:=by rw[hnx0];exact hAx
 obtain⟨pF,hpF,ρ2,a2,w2,s1,s2,s3⟩:=hch.go hI hD hb hk hr hu (b:=b) (kk:=.inBlock c.bid::k) (cs:=cs) (by omega) (by rw[hlF];exact mx) s hsm ρ1 a1 w1 hAx' ⟨g4.fn_,g4.kind,g4.rd_,g4.tmps.subTab hsub0,g4.marks⟩
 rw[hlF] at hpF s2 s3
 rw[hlast] at hpF
 obtain rfl:=List.mem_singleton.1 hpF
 have okF:=Srt.st_ok (e:=e) (z:=z) (p:=(pre,[])) (nx:=lF.2.2) (t:=lF.2.1) hb hk (by omega)
 obtain⟨ρ3,a3,w3,p1,p2,p3,p4⟩:=rx ρ2 b a2 (.inLoop c.lb::.inBlock c.bid::k) cs w2 ⟨s3.fn_,s3.kind,s3.rd_,s3.tmps,s3.marks⟩ s2.hr (s2.unb okF hu)
 have okE:(Cst.mk [(nb,.cells pre e (some z))] h2.next t2).OK h [nb]:=by
  refine⟨fun q hq=>?_,fun q hq=>?_,fun b hb'=>?_,fun b hb'=>?_,by show h.next≤h2.next;omega⟩
  .obtain rfl:=List.mem_singleton.1 hq;exact hb
  .obtain rfl:=List.mem_singleton.1 hq;exact .inl (by simp)
  .obtain rfl:=List.mem_singleton.1 hb';exact hk
  .obtain rfl:=List.mem_singleton.1 hb';exact⟨_,List.mem_singleton.2 rfl,rfl⟩
 have AE:=s2.step okF okE hr hu (Nat.le_refl _) p2 p3 tk
 refine⟨ρ3,a3,w3,?_,AE.stp.onLog h.log,AE.hr.onLog,p4.fn_,p4.kind,p4.rd_,p4.tmps,p4.marks⟩
 have hx:=p1.1 k (by simp[exitTo])
 exact Steps.trans (.head stepR_seq g1) (.head stepR_block (.head stepR_loop (s1.trans hx)))
end
section
variable{P:Program}
structure SortE where
 f:FuncId
 args:List Value
 nb:Nat
 q:List (List Value)
 e:TypeId
 z:Nat
 v:Value
 pre:List Value
 nx:Nat
 nx':Nat
def SortE.h(s:SortE):H:=⟨T.put T.deep .nil s.nb (some (.sack s.q s.e s.z)),s.nx,[]⟩
structure SortE.ok(P:Program)(s:SortE):Prop where
 does:FuncDoes P s.f s.args s.h s.v (Srt.endH s.h s.nb s.e s.z s.pre s.nx')
 low:s.nb<top
theorem SortE.get(s:SortE)(hl:s.nb<top)(b:Nat):s.h.get b=if b=s.nb then some (.sack s.q s.e s.z) else none:=by
 have:s.h.get b=if b=s.nb then some (.sack s.q s.e s.z) else(T.nil:T Ob).get b:=T.get_put _ _ _ _ _ (top_deep hl)
 rw[this]
 rfl
theorem SortE.does_at{s:SortE}(ok:s.ok P){h:H}{q':List (List Value)}(hn:h.next≤s.nx)(hg:h.get s.nb=some (.sack q' s.e s.z))(hp:q'.Perm s.q):FuncDoes P s.f s.args h s.v ⟨T.put T.deep h.t s.nb (some (.cells s.pre s.e (some s.z))),s.nx',s.nb::List.range' s.nx (s.nx'-s.nx)++h.log⟩:=by
 obtain⟨hF,hl⟩:=ok
 obtain⟨n1,fn,c,q1,q2,q3,_⟩:=id hF
 have n1:s.nx≤s.nx':=n1
 refine FuncDoes.of_calls (Nat.le_trans hn n1) q1 q2 q3 fun{ρ args' w} ha hr hu=>?_
 have hu:Unb ρ h.next s.nx':=hu
 obtain⟨x0,k0,o0,r1,r2,r3⟩:=hr.ob s.nb _ hg
 have hr0:HR ρ s.h w:=by
  refine⟨hr.tame,fun b o hb=>?_,fun b c x k l hb hc _ _=>?_⟩
  .rw[SortE.get s hl] at hb
   split at hb
   .rename_i e;cases hb;subst e;exact⟨x0,k0,o0,r1,r2,r3.sackPerm hp⟩
   .cases hb
  .rw[SortE.get s hl] at hb hc
   split at hb
   .rename_i e1
    split at hc
    .rename_i e2;rw[e1,e2]
    .cases hc
   .cases hb
 refine(hF.calls ha hr0 (hu.sub hn (Nat.le_refl _))).mono ?_
 rintro en w' ⟨v',ρ',rfl,s1,s2,s3⟩
 obtain⟨l,l1,l2,l3,l4,l5,l6⟩:=s1.log
 have hl1:s.nb::List.range' s.nx (s.nx'-s.nx)=l:=by
  have l1:s.nb::List.range' s.nx (s.nx'-s.nx)++[]=l++[]:=l1
  exact List.append_cancel_right l1
 subst hl1
 have hrange:∀b,b∈List.range' s.nx (s.nx'-s.nx)↔s.nx≤b∧b<s.nx':=fun b=>by rw[List.mem_range'_1];omega
 have hge:∀b,(⟨T.put T.deep h.t s.nb (some (.cells s.pre s.e (some s.z))),s.nx',s.nb::List.range' s.nx (s.nx'-s.nx)++h.log⟩:H).get b=if b=s.nb then some (.cells s.pre s.e (some s.z)) else h.get b:=fun b=>T.get_put _ _ _ _ _ (top_deep hl)
 have hgE:(Srt.endH s.h s.nb s.e s.z s.pre s.nx').get s.nb=some (.cells s.pre s.e (some s.z)):=by
  show(T.put T.deep _ s.nb _).get s.nb=_
  rw[T.get_put _ _ _ _ _ (top_deep hl),if_pos rfl]
 obtain⟨x1,k1,o1,t1,t2,t3⟩:=s2.ob s.nb _ hgE
 have hnb:ρ' s.nb=ρ s.nb:=by
  rcases s1.le s.nb with e|e|e
  .rw[r1] at e;cases e
  .exact e
  .rw[t1] at e;cases e
 have hout:∀b o,b≠s.nb→h.get b=some o→b∉s.nb::List.range' s.nx (s.nx'-s.nx):=fun b o hb hgb hm=>by
  rcases List.mem_cons.1 hm with h1|h1
  .exact hb h1
  .obtain⟨y,ky,_,g1,_⟩:=hr.ob b o hgb
   have:=(hrange b).1 h1
   rw[hu b (by omega) this.2] at g1;cases g1
 have hsame:∀b o,b≠s.nb→h.get b=some o→ρ' b=ρ b:=fun b o hb hgb=>by
  obtain⟨y,ky,_,g1,_⟩:=hr.ob b o hgb
  exact l6 b (hout b o hb hgb) (by rw[g1];exact fun h=>by cases h)
 have hall:∀b,(h.get b).isSome=true→ρ' b=ρ b:=fun b hb=>by
  obtain⟨o,ho⟩:=Option.isSome_iff_exists.1 hb
  by_cases e:b=s.nb
  .rw[e];exact hnb
  .exact hsame b o e ho
 have known:∀b,((⟨T.put T.deep h.t s.nb (some (.cells s.pre s.e (some s.z))),s.nx',s.nb::List.range' s.nx (s.nx'-s.nx)++h.log⟩:H).get b).isSome=true→(h.get b).isSome=true:=fun b hb=>by
  rw[hge] at hb
  split at hb
  .rename_i e;rw[e,hg];rfl
  .exact hb
 refine⟨v',ρ',rfl,⟨s1.le,Nat.le_trans hn n1,fun b hb hx=>s1.born b hb (by
  have hx:b<h.next∨s.nx'≤b:=hx
  show b<s.nx∨s.nx'≤b
  omega),s1.size,s.nb::List.range' s.nx (s.nx'-s.nx),rfl,l2,l3,fun b hb=>?_,fun b hb=>?_,l6⟩,⟨s2.tame,fun b o hb=>?_,fun b c x k l hb hc hx hy=>?_⟩,s3⟩
 .rcases List.mem_cons.1 hb with rfl|h1
  .exact .inl (by rw[hg];rfl)
  .have:=(hrange b).1 h1
   exact .inr ⟨by omega,this.2⟩
 .rw[hge,if_neg fun e=>hb (by rw[e];exact List.mem_cons_self ..)]
 .rw[hge] at hb
  split at hb
  .rename_i e;cases hb;subst e;exact⟨x1,k1,o1,t1,t2,t3⟩
  .rename_i e
   obtain⟨x,k,o',g1,g2,g3⟩:=hr.ob b o hb
   refine⟨x,k,o',by rw[hsame b o e hb];exact g1,l2 x o' g2 fun c m hc hcx=>?_,g3.mono s1.le⟩
   rcases List.mem_cons.1 hc with rfl|h1
   .exact e (hr.inj b s.nb x k m (by rw[hb];rfl) (by rw[hg];rfl) g1 hcx)
   .have:=(hrange c).1 h1
    rw[hu c (by omega) this.2] at hcx;cases hcx
 .have h1:=known b hb
  have h2:=known c hc
  rw[hall b h1] at hx
  rw[hall c h2] at hy
  exact hr.inj b c x k l h1 h2 hx hy
def fitsS(s:SortE)(f:FuncId)(args:List Value)(h:H):Bool:=match Nat.beq s.f f with
 |true=>match Nat.ble h.next s.nx with
  |true=>match eqVs s.args args with
   |true=>match h.get s.nb with
    |some (.sack q' e' z')=>permB eqVs q' s.q&&Nat.beq e' s.e&&Nat.beq z' s.z
    |_=>false
   |false=>false
  |false=>false
 |false=>false
def findS(f:FuncId)(args:List Value)(h:H):List SortE→Option (Option (Value×H))
 |[]=>none
 |s::es=>match fitsS s f args h with
  |true=>some (some (s.v,⟨T.put T.deep h.t s.nb (some (.cells s.pre s.e (some s.z))),s.nx',s.nb::List.range' s.nx (s.nx'-s.nx)++h.log⟩))
  |false=>findS f args h es
def sortsOf(es:List SortE):Hook:=fun f args h=>findS f args h es
theorem sortsOf_ok{es:List SortE}(hok:∀s∈es,s.ok P):HookOK P (sortsOf es):=by
 intro f args h v h' hf
 unfold sortsOf at hf
 induction es with
 |nil=>cases hf
 |cons s es ih=>
  simp only[findS] at hf
  split at hf
  .rename_i hfit
   simp only[Option.some.injEq,Prod.mk.injEq] at hf
   obtain⟨rfl,rfl⟩:=hf
   unfold fitsS at hfit
   split at hfit
   case h_2=>cases hfit
   rename_i h1
   split at hfit
   case h_2=>cases hfit
   rename_i h2
   split at hfit
   case h_2=>cases hfit
   rename_i h3
   split at hfit
   case h_2=>cases hfit
   rename_i q' e' z' hg
   simp only[Bool.and_eq_true] at hfit
   obtain rfl:=Nat.eq_of_beq_eq_true h1
   obtain rfl:=eqVs_eq h3
   have e1:=Nat.eq_of_beq_eq_true hfit.1.2
   have e2:=Nat.eq_of_beq_eq_true hfit.2
   subst e1 e2
   exact SortE.does_at (hok s (by simp)) (Nat.le_of_ble_eq_true h2) hg (permB_perm eqVs_eq' hfit.1.1)
  .exact ih (fun s hs=>hok s (by simp[hs])) hf
end
end Go.Ev
