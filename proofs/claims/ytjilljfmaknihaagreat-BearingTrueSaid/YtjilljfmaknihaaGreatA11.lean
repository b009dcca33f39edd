import Derived.Test.YtjilljfmaknihaaGreatA09
set_option linter.all false
set_option maxHeartbeats 8000000
namespace Go.Ev
open Go.ChangeMaps (setBlock)
section
variable{P:aH}{inv:Iv}
theorem XE{ρ ρ' h h' w w'}(s:Stp ρ h w ρ' h' w'){b}(h1:h.get b=none)(h2:b<h.next)(g:ρ b≠.dC):ρ' b=ρ b:=by
 have⟨l,_,_,_,e,_,d⟩:=s.log;refine d b (fun hb=>?_) g;rcases e b hb with a|a
 .rw[h1] at a;cases a
 omega
theorem acT{ρ h w w' o}(hr:HR ρ h w)(hu:ρ h.next=.dC)(hw:w'.heap=w.heap.push o)(ho:TJ o=false):Stp ρ h w (upd ρ h.next (.at_ w.heap.size 0)) ⟨h.t,h.next+1,h.log⟩ w'/\HR (upd ρ h.next (.at_ w.heap.size 0)) ⟨h.t,h.next+1,h.log⟩ w':=by
 have j:Le ρ (upd ρ h.next (.at_ w.heap.size 0)):=rE hu _;have d:∀b o,h.get b=some o->b≠h.next:=fun b o hb e=>by subst e;have⟨x,k,o',h1,_⟩:=hr.ob _ o hb;rw[hu] at h1;cases h1
 have a:∀(x) (o),w.heap[x]?=some o->w'.heap[x]?=some o:=fun x o hx=>by have:=(aP.1 hx).1;rw[hw,iK,aU (by omega)];exact hx
 refine⟨⟨j,Ll _,fun b hb hx=>?_,by rw[hw];simp,[],rfl,fun x o hx _=>a x o hx,fun b x k hb=>?_,fun _ h=>by simp at h,fun _ _=>rfl,fun b _ hb=>?_⟩,hr.fD.push hw ho,fun b o hb=>?_,fun b c x k l hb hc hx hy=>?_⟩
 .rw[bJ]
  .exact hb
  rintro rfl;rcases hx with hx|hx
  .exact absurd hx (Gp _)
  exact absurd hx (Nat.not_succ_le_self _)
 .by_cases e:b=h.next
  .subst e;rw[upd_same] at hb;cases hb;exact .inr ⟨hu,.inl (aA _)⟩
  rw[bJ _ _ e] at hb;exact .inl hb
 .rw[bJ];rintro rfl;exact hb hu
 .have⟨x,k,o',h1,h2,i⟩:=hr.ob b o hb;exact⟨x,k,o',by rw[bJ _ _ (d b o hb)];exact h1,a _ _ h2,i.mono j⟩
 have⟨o1,h1⟩:=gQ.1 hb;have⟨g,h2⟩:=gQ.1 hc;rw[bJ _ _ (d b o1 h1)] at hx;rw[bJ _ _ (d c g h2)] at hy;exact hr.inj b c x k l hb hc hx hy
structure BH(ρ:jV)(h:H)(nI r:Nat)(o:Obj)(w:ay):Prop where
 name:ρ nI=.at_ r 0
 apart:∀b k,(h.get b).isSome=true->ρ b≠.at_ r k
 obj:w.heap[r]?=some o
theorem BH.step{ρ ρ' h h' w w' nI r o}(L:BH ρ h nI r o w)(s:Stp ρ h w ρ' h' w')(hu:lK ρ h.next h'.next)(h1:h.get nI=none)(h2:nI<h.next):BH ρ' h' nI r o w':=by
 have hne:ρ nI≠.dC:=by rw[L.name];exact fun h=>by cases h
 have hn:=XE s h1 h2 hne;have⟨l,_,f,g,q,p,_⟩:=s.log;have a:∀b k,b∈l->ρ b≠.at_ r k:=fun b k hb e=>by
  rcases q b hb with i|i
  .exact L.apart b k i e
  rw[hu b i.1 i.2] at e;cases e
 refine⟨hn.trans L.name,fun b k hk hb=>?_,f r o L.obj a⟩;rcases g b r k hb with j|⟨_,j|⟨c,m,hc,hm⟩⟩
 .by_cases d:b∈l
  .exact a b k d j
  rw[p b d] at hk;exact L.apart b k hk j
 .have:=(aP.1 L.obj).1;omega
 exact absurd hm (a c m hc)
theorem BH.less{ρ h h' w nI r o}(L:BH ρ h nI r o w)(hk:∀b,(h'.get b).isSome=true->(h.get b).isSome=true):BH ρ h' nI r o w:=⟨L.name,fun b k hb=>L.apart b k (hk b hb),L.obj⟩
structure fG where
 fn:Func
 i0:Nat
 oL:bn
 oR:bn
 BQ:Nat
 i1:Nat
 oN:bn
 lC:List bn
 c7:fH
 qE:Nat
 i2:Nat
 oE:bn
 ops2:List bn
 cR:Code
 d4:Nat
 d5:Nat
 d6:Nat
 d8:Nat
 tM:aZ
 kT:aZ
 vT:aZ
def fG.inner(c:fG):Code:=.seq (.region c.i2 ⟨c.oE::c.ops2⟩ false) c.cR
def fG.lb(c:fG):Code:=.seq (.region c.i1 ⟨c.oN::c.lC⟩ false) (.seq (.cond c.c7 .skip (.exit c.BQ)) (.block c.qE c.inner))
def fG.body(c:fG):Code:=.seq (.region c.i0 #[c.oL,c.oR] false) (.block c.BQ (.loop c.lb))
structure fG.OK(P:aH)(c:fG)(f:aI):Prop where
 ff:P.funcs[f]?=some c.fn
 fb:c.fn.body=some c.body
 fname:(c.fn.name == "runtime.NumGoroutine")=false
 gR:c.oR.guard=none
 dR:c.oR.dst=some c.d5
 opR:c.oR.op=.range c.tM (.tmp c.d4)
 und:P.underlying c.tM=some (.map c.kT c.vT)
 gN:c.oN.guard=none
 dN:c.oN.dst=some c.d6
 opN:c.oN.op=.next (.tmp c.d5) false
 gE:c.oE.guard=none
 dE:c.oE.dst=some c.d8
 opE:c.oE.op=.entry (.tmp c.d5)
def chunks(z:Nat):Nat->List ae->List (List ae)
|0,_=>[]
|k+1,l=>match l with
 |[]=>[]
 |_=>match cut l 0 z with
  |some a=>a::chunks z k (l.drop z)
  |none=>[l]
def afC:Ob->Ob
|.cells c e (some z)=>.qO (chunks z c.length c) e z
|o=>o
def dedup:List Nat->List Nat->List Nat
|[],acc=>acc
|b::l,acc=>match acc.any fun c=>Nat.beq c b with
 |true=>dedup l acc
 |false=>dedup l (b::acc)
def nodupB:List Nat->Bool
|[]=>true
|b::l=>(l.all fun c=>!Nat.beq c b)&&nodupB l
theorem zM:∀{l:List Nat},nodupB l=true->l.Nodup
|[],_=>Zc
|b::l,h=>by simp only[nodupB,aT] at h;refine JW.2 ⟨fun hb=>?_,zM h.2⟩;have:=bZ.1 h.1 b hb;simp at this
section
variable(P:aH)(inv:Iv)(c:fG)(f:aI)(n:Nat)(h:H)
def fG.ptr(h:H):ae:=.pointer (some ⟨h.next,0,none⟩)
def fG.VW(s:Cst)(e:MapEntry):aB (T ae×H):=
 match nV s.t n (some c.d6) (.tuple ⟨[.bool true,e.key,e.val]⟩) with
 |some tN=>match uU P inv abv n (c.oN::c.lC) c.lC tN (s.h0 h) with
  |some (t2,h2)=>match h2.log,di t2 c.c7 with
   |[],some (.bool true)=>match nV t2 n (some c.d8) (.tuple ⟨[e.key,e.val]⟩),(match t2.get c.d5 with|some v=>Be v (fG.ptr h)|none=>false) with
    |some t3,true=>match uU P inv abv n (c.oE::c.ops2) c.ops2 t3 h2 with
     |some (t4,h4)=>match jd P inv f n none c.cR ⟨t4,h4,[]⟩ with
      |some (.normal,⟨t5,h5,[]⟩)=>some (t5,h5)
      |_=>none
     |none=>none
    |_,_=>none
   |_,_=>none
  |none=>none
 |none=>none
def fG.aer(s:Cst):aB (T ae×H):=
 match nV s.t n (some c.d6) (.tuple ⟨[.bool false]⟩) with
 |some tN=>match uU P inv abv n (c.oN::c.lC) c.lC tN (s.h0 h) with
  |some (t2,h2)=>match di t2 c.c7 with
   |some (.bool false)=>some (t2,h2)
   |_=>none
  |none=>none
 |none=>none
def fG.has(S:List Nat)(b:Nat):Bool:=S.any fun c=>Nat.beq c b
def fG.EN(S:List Nat)(s:Cst):List MapEntry->aB (List (List Nat×T ae×H))
|[]=>some []
|e::es=>match fG.has S e.born with
 |true=>fG.EN S s es
 |false=>match fG.VW P inv c f n h s e,fG.EN S s es with
  |some (t,h'),some r=>some ((S++[e.born],t,h')::r)
  |_,_=>none
def fG.outs(es:List MapEntry):List (List Nat×Cst)->aB (List (List Nat×T ae×H))
|[]=>some []
|(S,s)::l=>match es.all (fun e=>fG.has S e.born),fG.EN P inv c f n h S s es,fG.outs es l with
 |false,some a,some b=>some (a++b)
 |_,_,_=>none
def fG.canon(h:H)(TB:List Nat)(t0:T ae)(t5:T ae)(h5:H):Cst:=
 let a:=TB.filterMap fun b=>match h5.get b with|some o=>some (b,o)|none=>none
 let ns:=(dedup (a.flatMap fun p=>adr p.2) []).filter fun b=>Nat.blt h.next b
 ⟨a++ns.filterMap fun b=>match h5.get b with|some o=>some (b,afC o)|none=>none,h5.next,T.meet t5 t0⟩
def fG.fresh(TB:List Nat)(t0:T ae):List (List Nat×T ae×H)->List (List Nat×Cst)->List (List Nat×Cst)
|[],acc=>acc
|(S,t,h')::l,acc=>match acc.any (fun p=>BL Nat.beq p.1 S) with
 |true=>fG.fresh TB t0 l acc
 |false=>fG.fresh TB t0 l ((S,fG.canon h TB t0 t h')::acc)
def fG.aah(TB:List Nat)(s:Cst):Bool:=s.okB h TB&&Nat.blt h.next s.nx&&(s.ms.all fun p=>!Nat.beq p.1 h.next)&&(match s.t.get c.d5 with|some v=>Be v (fG.ptr h)|none=>false)
def fG.Oe(TB:List Nat)(os:List (List Nat×T ae×H))(sts':List (List Nat×Cst)):aB (List (List Nat×Cst)):=
 match(sts'.all fun p=>fG.aah c h TB p.2),(os.all fun y=>sts'.any fun p=>BL Nat.beq p.1 y.1&&lU Be y.2.1 p.2.t&&p.2.E8 Yh h TB y.2.2) with
 |true,true=>some sts'
 |_,_=>none
def fG.Wu(es:List MapEntry)(TB:List Nat)(t0:T ae):Nat->List (List Nat×Cst)->aB Cst
|0,sts=>match sts with
 |[(S,s)]=>match es.all fun e=>fG.has S e.born with
  |true=>some s
  |false=>none
 |_=>none
|k+1,sts=>match fG.outs P inv c f n h es sts with
 |some os=>match fG.Oe c h TB os (fG.fresh h TB t0 os []) with
  |some sts'=>fG.Wu es TB t0 k sts'
  |none=>none
 |none=>none
def fG.st0(TB:List Nat)(t0:T ae):Cst:=⟨TB.filterMap fun b=>match h.get b with|some o=>some (b,o)|none=>none,h.next+1,t0⟩
end
theorem Cst.At.touch{s:Cst}{ρ0 ρ h0 w0 w w1 TB}(A:s.At ρ0 h0 w0 TB ρ w){r}(hr:w0.heap.size<=r)(hs:w1.heap.size=w.heap.size)(hk:∀x,x≠r->w1.heap[x]?=w.heap[x]?)(hn:∀b k,((s.h0 h0).get b).isSome=true->ρ b≠.at_ r k)(ht:dU w1):s.At ρ0 h0 w0 TB ρ w1:=by
 have⟨l,e,f,o,q⟩:=A.stp.log;refine⟨⟨A.stp.le,A.stp.next,A.stp.born,by rw[hs];exact A.stp.size,l,e,fun x c hx hm=>?_,o,q⟩,ht,fun b ob hb=>?_,A.hr.inj⟩
 .rw[hk x fun a=>?_]
  .exact f x c hx hm
  have:=(aP.1 hx).1;omega
 have⟨x,k,o',h1,h2,d⟩:=A.hr.ob b ob hb;refine⟨x,k,o',h1,?_,d⟩;rw[hk x fun a=>?_]
 .exact h2
 subst a;exact hn b k (by rw[hb];rfl) h1
theorem Qh{w r o o'}(h:w.heap[r]?=some o):(setBlock w r o').heap[r]?=some o':=by have:=(aP.1 h).1;simp[setBlock,this]
theorem Nl{w r x o'}(h:x≠r):(setBlock w r o').heap[x]?=w.heap[x]?:=by simp[setBlock];rw[jf (uJ h)]
theorem xR{o ops tm}(h:o.guard=none):Region.wanted o (yielded ops tm)=true:=by unfold Region.wanted;rw[h]
theorem fG.L6{S b}:fG.has S b=true↔b∈S:=by
 unfold fG.has;rw[jA];constructor
 .rintro⟨c,h1,h2⟩;rw[<-bG h2];exact h1
 exact fun h=>⟨b,h,by simp⟩
structure fG.At(f:aI)(n:Nat)(h:H)(ρ0:jV)(w0:ay)(TB:List Nat)(m mA clock r:Nat)(S:List Nat)(s:Cst)(ρ:jV)(b:aC)(a:Act)(w:ay):Prop where
 A:s.At ρ0 h w0 TB ρ w
 sits:Sits ρ f n none ⟨s.t,s.h0 h,[]⟩ b a
 iter:∃seen:Array Nat,BH ρ (s.h0 h) h.next r (.mapIter (some mA) clock seen clock) w/\seen.toList.Perm S
 mN:∃k,ρ m=.at_ mA k
structure fG.Good(c:fG)(h:H)(TB:List Nat)(s:Cst):Prop where
 ok:s.OK h TB
 next:h.next<s.nx
 free:∀p∈s.ms,p.1≠h.next
 d5:s.t.get c.d5=some (fG.ptr h)
theorem fG.aag{c h TB s}(e:fG.aah c h TB s=true):fG.Good c h TB s:=by
 unfold fG.aah at e;simp only[aT] at e;have⟨⟨⟨h1,h2⟩,h3⟩,h4⟩:=e;refine⟨Cst.aht h1,by rwa[ik] at h2,fun p hp=>?_,?_⟩
 .have:=bZ.1 h3 p hp
  intro e1;rw[e1] at this;simp at this
 split at h4
 .rename_i v hv;rw[hv,lY h4]
 cases h4
theorem NM{ρ n d r h t}{a:Act}(ht:TR ρ n t a.tmps)(hd:t.get d=some (fG.ptr h))(hn:ρ h.next=.at_ r 0):a.eval (.tmp d)=.pointer (some ⟨r,0,none⟩):=by have⟨v',h1,h2⟩:=ht.get d _ hd;obtain⟨⟨x,o,sp⟩,rfl,ha⟩:=VR.lD h2;have hb:=ha.block.at_ hn;have ho:=ha.off;have hs:=ha.spot';subst hb ho hs;show a.tmps.getD d undef=_;rw[pq,h1];rfl
theorem abR{es}(h:Iq es=true){e}(he:e∈es):flat e.key=true/\flat e.val=true:=by
 unfold Iq at h;have:=bZ.1 h e he;split at this
 .rename_i h1;exact⟨h1,this⟩
 cases this
theorem fG.round(hI:kS P inv)(hD:iR P inv){c f}(hc:c.OK P f){n h ρ0 w0 TB m mA clock r hi es}(W:HR ρ0 h w0)(hu:lK ρ0 h.next hi)(hm:h.get m=some (.map es clock))(hmT:m∉TB)(hborn:∀e∈es,e.born<clock)(hnd:(es.map (·.born)).Nodup)(hfl:Iq es=true)(V:w0.heap.size<=r){S s ρ b a w}(K:fG.At f n h ρ0 w0 TB m mA clock r S s ρ b a w)(G:fG.Good c h TB s)(H:s.nx<=hi){k cs}(X:∃e∈es,e.born∉S):∃e∈es,e.born∉S/\∀t5 h5,fG.VW P inv c f n h s e=some (t5,h5)->h5.next<=hi->∀S' s',S'.Perm (S++[e.born])->fG.Good c h TB s'->s'.nx<=hi->lU Be t5 s'.t=true->s'.IQ h TB h5->∃ρ' a' w',Steps P (lone (b.atR a (.code c.lb::.inLoop c.lb::k)) cs w) (lone (b.atR a' (.code c.lb::.inLoop c.lb::k)) cs w')/\fG.At f n h ρ0 w0 TB m mA clock r S' s' ρ' b a' w':=by
 have⟨A,hs,⟨seen,Lo,j⟩,⟨kA,B⟩⟩:=K;have hnx:=G.ok.next;have hb0:∀x o,h.get x=some o->x<h.next\/hi<=x:=fun x o hx=>by
  have⟨y,kx,o',q1,_⟩:=W.ob x o hx;by_cases hlt:h.next<=x/\x<hi
  .rw[hu x hlt.1 hlt.2] at q1;cases q1
  omega
 have hgm:∀(s),fG.Good c h TB s->s.nx<=hi->(s.h0 h).get m=some _:=fun s G hs=>by have:=hb0 m _ hm;exact(Cst.rJ G.ok hmT (by omega)).trans hm
 have hgI:∀(s),fG.Good c h TB s->s.nx<=hi->(s.h0 h).get h.next=none:=fun s G hs=>by
  have h1:(s.h0 h).get h.next=h.get h.next:=Oi G.ok.low G.free;rw[h1];cases hx:h.get h.next with
  |none=>rfl
  |some o=>
  have:=hb0 _ _ hx;have:=G.next;omega
 obtain⟨x,kx,om,m1,m2,rfl,_⟩:=A.hr.ob m _ (hgm s G H);rw[B] at m1;cases m1;have hev:=NM hs.tmps G.d5 Lo.name;have I:=run_next_at (P:=P) w c.oN.type r mA clock clock seen ⟨es⟩ clock Lo.obj m2 (fun x hx=>hborn x hx) (aA _);have F:¬(leftOf ⟨es⟩ seen).size=0:=by
  have⟨e,he,hb⟩:=X;intro h0;have O:e∈leftOf ⟨es⟩ seen:=by unfold leftOf;rw[Array.mem_filter];refine⟨by simpa using he,?_⟩;have:e.born∉seen:=fun hx=>hb (j.mem_iff.1 (by simpa using hx));simpa using this
  rw[Array.eq_empty_of_size_eq_zero h0] at O;simp at O
 rcases I with⟨h0,_⟩|⟨e,heL,w',hw',hrun⟩
 .exact absurd h0 F
 have he:e∈es/\e.born∉seen:=by unfold leftOf at heL;simpa using heL
 refine⟨e,he.1,fun hx=>he.2 (by simpa using j.mem_iff.2 hx),fun t5 h5 g hh5 S' s' hS' G' Q hsub tk=>?_⟩;have⟨fk,fv⟩:=abR hfl he.1;unfold fG.VW at g;split at g;case h_2=>cases g
 rename_i tN etN;split at g;case h_2=>cases g
 rename_i t2 h2 e2;split at g;case h_2=>cases g
 rename_i hl2 e7;split at g;case h_2=>cases g
 rename_i t3 et3 ed5;split at g;case h_2=>cases g
 rename_i t4 h4 e4;split at g;case h_2=>cases g
 rename_i t5' h5' e5;cases g;have hd52:t2.get c.d5=some (fG.ptr h):=by
  split at ed5
  .rename_i v hv;rw[hv,lY ed5]
  cases ed5
 have n2:=gX hI.next e2;have n4:=gX hI.next e4;have⟨n5,r5⟩:=iC hI hD c.cR _ _ e5;have n2:=n2;have n5:h4.next<=h5.next:=n5;generalize R:setBlock w' r _=w1 at hrun;have z:w'.heap=w.heap:=by rcases hw' with rfl|rfl<;>rfl
 have hrw':w'.heap[r]?=some (.mapIter (some mA) clock seen clock):=by rw[z];exact Lo.obj
 have L:w1.heap[r]?=some (.mapIter (some mA) clock (seen.push e.born) clock):=by rw[<-R];exact Qh hrw'
 have M:∀x,x≠r->w1.heap[x]?=w.heap[x]?:=fun x hx=>by rw[<-R,Nl hx,z]
 have hw1s:w1.heap.size=w.heap.size:=by rw[<-R];simp[setBlock,z]
 have q:=mO (b:=b) (k:=.code (.seq (.cond c.c7 .skip (.exit c.BQ)) (.block c.qE c.inner))::.inLoop c.lb::k) (cs:=cs) (ops:=⟨c.oN::c.lC⟩) (i:=0) (rest:=List.range' 1 c.lC.length) (o:=c.oN) rfl (xR hc.gN)
  (fun d hd=>by rw[hc.opN] at hd;cases hd) (by
   have:(do pure (.value (<- Instr.next (a.eval (.tmp c.d5)) false c.oN.type)):Sem Next).run P w=.ok (.value (.tuple #[.bool true,e.key,e.val])) w1:=by simp[hev,hrun]
   unfold execOp;rw[hc.opN];exact this) (.inl rfl)
 rw[hc.dN] at q;have hvN:VR ρ _ (.tuple #[.bool true,e.key,e.val]):=dX (by simp[flat,kY,fk,fv]);have trN:TR ρ n tN (a.put (some c.d6) (.tuple #[.bool true,e.key,e.val])).tmps:=hs.tmps.put etN hvN;have A1:s.At ρ0 h w0 TB ρ w1:=A.touch V hw1s M (fun b k hb hx=>Lo.apart b k hb hx) (A.hr.fD.set L M rfl);have Lo1:BH ρ (s.h0 h) h.next r (.mapIter (some mA) clock (seen.push e.born) clock) w1:=⟨Lo.name,Lo.apart,L⟩;have D:lK ρ s.nx hi:=A1.unb G.ok hu;generalize ha1:a.put (some c.d6) (.tuple #[.bool true,e.key,e.val])=a1 at *;have hda1:a1.defers=a.defers:=by rw[<-ha1,put_defers]
 have⟨C,a2,w2,p1,p2,p3,p4,p5⟩:=Jk (b:=b) (k:=.code (.seq (.cond c.c7 .skip (.exit c.BQ)) (.block c.qE c.inner))::.inLoop c.lb::k) (cs:=cs) hI (ops:=⟨c.oN::c.lC⟩) (i:=1) rfl e2 trN A1.hr (D.sub (aA _) (by show h2.next<=hi;omega));have Z:a2.eval c.c7=.bool true:=(fA p5 _ _ e7).gZ;have Lo2:=Lo1.step p3 (D.sub (aA _) (by show h2.next<=hi;omega)) (hgI s G H) G.next;have hev2:a2.eval (.tmp c.d5)=.pointer (some ⟨r,0,none⟩):=NM p5 hd52 Lo2.name;have⟨l2,J,_,_,_,Y,E⟩:=id p3.log;have hl2':l2=[]:=by have J:h2.log=l2++[]:=J;rw[hl2] at J;simpa using J.symm
 subst hl2';have hmN2:C m=.at_ mA kA:=by rw[E m (by simp) (by rw[B];exact fun h=>by cases h)];exact B
 have hgm2:h2.get m=some (.map es clock):=by rw[Y m (by simp)];exact hgm s G H
 obtain⟨x2,kx2,om2,m21,m22,rfl,_⟩:=p4.ob m _ hgm2;rw[hmN2] at m21;cases m21;have U:=run_entry_at (P:=P) w2 r mA clock seen ⟨es⟩ clock e Lo2.obj m22 he.1 hnd;have p:=mO (P:=P) (b:=b) (a:=a2) (k:=.code c.cR::.inBlock c.qE::.inLoop c.lb::k) (cs:=cs) (w:=w2) (w':=w2) (ops:=⟨c.oE::c.ops2⟩) (i:=0) (rest:=List.range' 1 c.ops2.length) (o:=c.oE) (N:=.value (.tuple #[e.key,e.val])) (v:=.tuple #[e.key,e.val]) rfl (xR hc.gE)
  (fun d hd=>by rw[hc.opE] at hd;cases hd) (by
   have:(do pure (.value (<- Instr.entry (a2.eval (.tmp c.d5)))):Sem Next).run P w2=.ok (.value (.tuple #[e.key,e.val])) w2:=by simp[hev2,U]
   unfold execOp;rw[hc.opE];exact this) (.inl rfl)
 rw[hc.dE] at p;have hvE:VR C (.tuple ⟨[e.key,e.val]⟩) (.tuple #[e.key,e.val]):=dX (by simp[flat,kY,fk,fv]);have tr3:TR C n t3 (a2.put (some c.d8) (.tuple #[e.key,e.val])).tmps:=p5.put et3 hvE;generalize ha3:a2.put (some c.d8) (.tuple #[e.key,e.val])=a3 at *;have hda3:a3.defers=a2.defers:=by rw[<-ha3,put_defers]
 have hu2:lK C h2.next hi:=(D.sub n2 (aA _)).step p3 (aA _);have⟨ρ4,a4,w4,q1,q2,q3,q4,q5⟩:=Jk (b:=b) (k:=.code c.cR::.inBlock c.qE::.inLoop c.lb::k) (cs:=cs) hI (ops:=⟨c.oE::c.ops2⟩) (i:=1) rfl e4 tr3 p4 (hu2.sub (aA _) (by omega));have hu4:lK ρ4 h4.next hi:=(hu2.sub n4 (aA _)).step q3 (aA _);have⟨ρ5,a5,w5,g1,g2,g3,g4⟩:=r5 ρ4 b a4 (.inBlock c.qE::.inLoop c.lb::k) cs w4 ⟨hs.L9,hs.kind,hs.LW.mono (p3.le.trans q3.le),q5,by rw[q2,hda3,p2,hda1];exact hs.marks.mono (p3.le.trans q3.le)⟩ q4 (hu4.sub (aA _) hh5);have g1:Steps P _ _:=g1;have u:Stp ρ (s.h0 h) w1 ρ5 h5 w5:=(p3.trans q3).trans g2;have A5:=A1.step G.ok G'.ok W hu Q u g3 tk;have Lo5:=(Lo1.step u (D.sub (aA _) hh5) (hgI s G H) G.next).less (tk.known G.ok G'.ok W hu Q u);refine⟨ρ5,a5,w5,?_,A5,⟨g4.L9,g4.kind,g4.LW,g4.tmps.lU hsub,g4.marks⟩,⟨_,Lo5,?_⟩,⟨kA,?_⟩⟩
 .have V:List.range (⟨c.oN::c.lC⟩:Array bn).size=0::List.range' 1 c.lC.length:=by rw[yV];simp[uw]
  have hr2:List.range (⟨c.oE::c.ops2⟩:Array bn).size=0::List.range' 1 c.ops2.length:=by rw[yV];simp[uw]
  refine .head kL (.head Gv ?_);rw[V];refine .head q (p1.trans (.head kL (.head (DU Z) (.head UW (.head Gu (.head kL (.head Gv ?_)))))));rw[hr2];exact .head p (q1.trans (g1.trans (.head stepR_inBlock (.one PU))))
 .have:(seen.push e.born).toList=seen.toList++[e.born]:=by simp
  rw[this];exact(j.append_right [e.born]).trans hS'.symm
 have⟨l,el,_,_,_,_,T⟩:=u.log;have el:h5.log=l++[]:=el;rw[o9] at el;rw[T m (fun hml=>?_) (by rw[B];exact fun h=>by cases h)]
 .exact B
 rcases tk.log m (by rw[el];exact hml) with h1|h1
 .exact hmT h1
 have:=hb0 m _ hm;omega
section
variable{c:fG}{f:aI}{n:Nat}{h:H}
theorem fG.vI{S:List Nat}{s:Cst}:∀{es:List MapEntry} {r:List (List Nat×T ae×H)},fG.EN P inv c f n h S s es=some r->∀e∈es,e.born∉S->∃t h',fG.VW P inv c f n h s e=some (t,h')/\(S++[e.born],t,h')∈r
|[],r,hr,e,he,_=>by simp at he
|x::es,r,hr,e,he,hb=>by
 simp only[fG.EN] at hr;split at hr
 .rename_i hx;rcases dW.1 he with rfl|he
  .exact absurd (fG.L6.1 hx) hb
  exact fG.vI hr e he hb
 split at hr
 .rename_i t h' r' d b;cases hr;rcases dW.1 he with rfl|he
  .exact⟨t,h',d,fZ ..⟩
  have⟨t2,h2,g1,a⟩:=fG.vI b e he hb;exact⟨t2,h2,g1,jy _ a⟩
 cases hr
theorem fG.wI{es:List MapEntry}:∀{l:List (List Nat×Cst)} {r:List (List Nat×T ae×H)},fG.outs P inv c f n h es l=some r->∀p∈l,(∃e∈es,e.born∉p.1)/\∀e∈es,e.born∉p.1->∃t h',fG.VW P inv c f n h p.2 e=some (t,h')/\(p.1++[e.born],t,h')∈r
|[],r,hr,p,hp=>by simp at hp
|(S,s)::l,r,hr,p,hp=>by
 simp only[fG.outs] at hr;split at hr
 .rename_i a b i k j;cases hr;rcases dW.1 hp with h1|h1
  .subst h1;refine⟨?_,fun e he hb=>?_⟩
   .rw[UJ] at i;have⟨e,he,hb⟩:=i;exact⟨e,he,fun hx=>hb (fG.L6.2 hx)⟩
   have⟨t,h',g1,d⟩:=fG.vI k e he hb;exact⟨t,h',g1,List.mem_append_left _ d⟩
  have⟨m,g⟩:=fG.wI j p h1;refine⟨m,fun e he hb=>?_⟩;have⟨t,h',g1,d⟩:=g e he hb;exact⟨t,h',g1,List.mem_append_right _ d⟩
 cases hr
theorem agd{a b}(h:BL Nat.beq a b=true):a.Perm b:=oQ Jp h
theorem fG.ade(hI:kS P inv)(hD:iR P inv){s e t h'}(a:fG.VW P inv c f n h s e=some (t,h')):s.nx<=h'.next:=by
 unfold fG.VW at a;split at a;case h_2=>cases a
 split at a;case h_2=>cases a
 rename_i k;split at a;case h_2=>cases a
 split at a;case h_2=>cases a
 split at a;case h_2=>cases a
 rename_i j;split at a;case h_2=>cases a
 rename_i i;cases a;have b:=gX hI.next k;have g:=gX hI.next j;have⟨d,_⟩:=iC hI hD c.cR _ _ i;have b:=b;exact bM b (bM g d)
theorem fG.aai(hI:kS P inv)(hD:iR P inv){es:List MapEntry}{TB:List Nat}{t0:T ae}:∀{k:Nat} {a:List (List Nat×Cst)} {d:Cst},fG.Wu P inv c f n h es TB t0 k a=some d->∀p∈a,p.2.nx<=d.nx
|0,a,d,hg,p,hp=>by
 simp only[fG.Wu] at hg;split at hg
 .split at hg
  .cases hg;obtain rfl:=eY.1 hp;exact aA _
  cases hg
 cases hg
|k+1,a,d,hg,p,hp=>by
 simp only[fG.Wu] at hg;split at hg;case h_2=>cases hg
 rename_i os s;split at hg;case h_2=>cases hg
 rename_i j g;unfold fG.Oe at g;split at g;case h_2=>cases g
 rename_i g1 r;generalize fG.fresh h TB t0 os []=sN at *;cases g;have⟨⟨e,he,hb⟩,b⟩:=fG.wI s p hp;have⟨t,h',o,m⟩:=b e he hb;have:=bZ.1 r _ m;have⟨q,i,hx⟩:=jA.1 this;simp only[aT] at hx;have l:=Cst.vS wU hx.2;exact bM (fG.ade hI hD o) (bM l.next (fG.aai hI hD hg q i))
theorem fG.rounds(hI:kS P inv)(hD:iR P inv)(hc:c.OK P f){ρ0:jV}{w0:ay}{TB:List Nat}{t0:T ae}{m mA clock r hi:Nat}{es:List MapEntry}(v:HR ρ0 h w0)(hu:lK ρ0 h.next hi)(hm:h.get m=some (.map es clock))(z:m∉TB)(g:∀e∈es,e.born<clock)(y:(es.map (·.born)).Nodup)(B:Iq es=true)(u:w0.heap.size<=r){b:aC}{kk:List ig}{cs:List aC}:∀(k:Nat) (d:List (List Nat×Cst)) (j:Cst),fG.Wu P inv c f n h es TB t0 k d=some j->j.nx<=hi->(∀p∈d,fG.Good c h TB p.2)->∀p∈d,∀(ρ:jV) (a:Act) (w:ay),fG.At f n h ρ0 w0 TB m mA clock r p.1 p.2 ρ b a w->∃S ρ' a' w',Steps P (lone (b.atR a (.code c.lb::.inLoop c.lb::kk)) cs w) (lone (b.atR a' (.code c.lb::.inLoop c.lb::kk)) cs w')/\fG.At f n h ρ0 w0 TB m mA clock r S j ρ' b a' w'/\(∀e∈es,e.born∈S)/\fG.Good c h TB j
|0,d,j,hg,A,I,p,hp,ρ,a,w,K=>by
 simp only[fG.Wu] at hg;split at hg
 .rename_i S s
  split at hg
  .rename_i C;cases hg;obtain rfl:=eY.1 hp;exact⟨S,ρ,a,w,.refl _ _,K,fun e he=>fG.L6.1 (bZ.1 C e he),I _ hp⟩
  cases hg
 cases hg
|k+1,d,j,hg,A,I,p,hp,ρ,a,w,K=>by
 have hle:=fG.aai hI hD hg p hp;simp only[fG.Wu] at hg;split at hg;case h_2=>cases hg
 rename_i os W;split at hg;case h_2=>cases hg
 rename_i i E;unfold fG.Oe at E;split at E;case h_2=>cases E
 rename_i g1 V;generalize fG.fresh h TB t0 os []=sN at *;cases E;have⟨o,x⟩:=fG.wI W p hp;have⟨e,he,hb,U⟩:=fG.round (cs:=cs) (k:=kk) hI hD hc v hu hm z g y B u K (I p hp) (by omega) o;have⟨t,h',Q,O⟩:=x e he hb;have:=bZ.1 V _ O;have⟨q,l,hx⟩:=jA.1 this;simp only[aT] at hx;have J:=Cst.vS wU hx.2;have L:=fG.aai hI hD hg q l;have D:∀p∈i,fG.Good c h TB p.2:=fun p hp=>fG.aag (bZ.1 g1 p hp);have R:=J.next;have⟨G,Y,w1,s1,Z⟩:=U t h' Q (by omega) q.1 q.2 (agd hx.1.1) (D q l) (by omega) hx.1.2 J;have⟨S,F,X,w2,s2,K2,N,M⟩:=fG.rounds hI hD hc v hu hm z g y B u (b:=b) (kk:=kk) (cs:=cs) k i j hg A D q l G Y w1 Z;exact⟨S,F,X,w2,s1.trans s2,K2,N,M⟩
end
def fG.start(P:aH)(inv:Iv)(c:fG)(n:Nat)(args:List ae)(h:H):aB (T ae×Nat×List MapEntry×Nat):=
 match yA 0 args .nil with
 |some ta=>match yH P inv n [c.oL,c.oR] [c.oL] ta h with
  |some t1=>match t1.get c.d4,nV t1 n (some c.d5) (fG.ptr h) with
   |some (.map (some m)),some t0=>match h.get m with
    |some (.map es clock)=>match Iq es,es.all (fun e=>Nat.blt e.born clock),nodupB (es.map (·.born)) with
     |true,true,true=>some (t0,m,es,clock)
     |_,_,_=>none
    |_=>none
   |_,_=>none
  |none=>none
 |none=>none
def fG.touched(P:aH)(inv:Iv)(c:fG)(f:aI)(n:Nat)(h:H)(t0:T ae):List MapEntry->aB (List Nat)
|[]=>some []
|e::_=>match fG.VW P inv c f n h ⟨[],h.next+1,t0⟩ e with
 |some (_,h5)=>some ((dedup h5.log []).filter fun b=>Nat.blt b h.next)
 |none=>none
def fG.akl(P:aH)(c:fG)(h:H)(TB:List Nat)(sF:Cst)(t2:T ae)(h2:H):aB (ae×H):=
 match(Cst.mk sF.ms h2.next t2).okB h TB,(Cst.mk sF.ms h2.next t2).E8 Yh h TB h2 with
 |true,true=>rD P c.fn (.normal,⟨t2,⟨yK sF.ms h.t,h2.next,TB++List.range' h.next (h2.next-h.next)++h.log⟩,[]⟩)
 |_,_=>none
def fG.di(P:aH)(inv:Iv)(c:fG)(f:aI)(args:List ae)(h:H):aB (ae×H):=
 match fG.start P inv c (args.length+(c.fn.ntmps-args.length)) args h with
 |some (t0,m,es,clock)=>match fG.touched P inv c f (args.length+(c.fn.ntmps-args.length)) h t0 es with
  |some TB=>match fG.has TB m,fG.aah c h TB (fG.st0 h TB t0),fG.Wu P inv c f (args.length+(c.fn.ntmps-args.length)) h es TB t0 es.length [([],fG.st0 h TB t0)] with
   |false,true,some sF=>match fG.aer P inv c n0 h sF with
    |some (t2,h2)=>fG.akl P c h TB sF t2 h2
    |none=>none
   |_,_,_=>none
  |none=>none
 |none=>none
where n0:Nat:=args.length+(c.fn.ntmps-args.length)
theorem fG.aaY{h TB t0 h'}(hg:∀b,h'.get b=h.get b)(hn:h'.next=h.next+1)(hl:h'.log=[]):(fG.st0 h TB t0).IQ h TB h':=by
 refine⟨fun p hp=>?_,fun b hb=>by rw[hl] at hb;simp at hb,by rw[hn];exact aA _⟩;have⟨b,_,hb⟩:=List.mem_filterMap.1 hp;split at hb
 .rename_i o ho;cases hb;exact⟨o,by rw[hg];exact ho,.refl o⟩
 cases hb
theorem fG.does(hI:kS P inv)(hD:iR P inv){c:fG}{f}(hc:c.OK P f){args h h' v}(z:c.di P inv f args h=some (v,h')):dF P f args h v h':=by
 unfold fG.di fG.di.n0 at z;generalize hn:args.length+(c.fn.ntmps-args.length)=n at z;split at z;case h_2=>cases z
 rename_i t0 m es clock q;split at z;case h_2=>cases z
 rename_i TB eTB;split at z;case h_2=>cases z
 rename_i F E hgood ego;split at z;case h_2=>cases z
 rename_i t2 h2 g;unfold fG.start at q;split at q;case h_2=>cases q
 rename_i ta hta;split at q;case h_2=>cases q
 rename_i t1 et1;split at q;case h_2=>cases q
 rename_i m0 t0' hd4 et0;split at q;case h_2=>cases q
 rename_i es0 clock0 hm;split at q;case h_2=>cases q
 rename_i hfl s L;cases q;have s:∀e∈es,e.born<clock:=fun e he=>by
  have:=bZ.1 s e he
  rwa[ik] at this
 have L:=zM L;have E:m∉TB:=fun hx=>by rw[fG.L6.2 hx] at E;cases E
 have G0:=fG.aag hgood;unfold fG.akl at z;split at z;case h_2=>cases z
 rename_i hokE htkE;have okE:=Cst.aht hokE;have W:=Cst.vS wU htkE;have htkn:=W.next;unfold fG.aer at g;split at g;case h_2=>cases g
 rename_i tN etN;split at g;case h_2=>cases g
 rename_i t2' h2' e2;split at g;case h_2=>cases g
 rename_i e7;cases g;have n2:=gX hI.next e2;have n2:F.nx<=h2.next:=n2;have hle:=fG.aai hI hD ego _ (eY.2 rfl);have hle:h.next+1<=F.nx:=hle;refine A8 (x:=(.normal,⟨t2,⟨yK F.ms h.t,h2.next,TB++List.range' h.next _++h.log⟩,[]⟩)) hc.ff hc.fb hc.fname hta ?_ z;rw[hn];refine⟨by show h.next<=h2.next;omega,fun ρ b a k cs w hs hr hu=>?_⟩;have hu:lK ρ h.next h2.next:=hu;have O:∀x o,h.get x=some o->x<h.next\/h2.next<=x:=fun x o hx=>by
  obtain⟨y,kx,o',q1,_⟩:=hr.ob x o hx;by_cases hlt:h.next<=x/\x<h2.next
  .rw[hu x hlt.1 hlt.2] at q1;cases q1
  omega
 obtain⟨U,a1,w1,q1,q2,q3,q4,q5,q6⟩:=GV (k:=.code _::k) hI (i:=0) (fun j hj=>by simp at hj;subst hj;rfl) et1 hs.tmps hr;obtain⟨vm,gm1,gm2⟩:=q5.get _ _ hd4;obtain⟨G,rfl,hB⟩:=gm2.TZ;obtain⟨mA,kA,om,o1,o2,rfl,_⟩:=q4.ob m _ hm;obtain rfl:=hB.at_ o1;have hev:a1.eval (.tmp c.d4)=.map (some G):=by show a1.tmps.getD c.d4 undef=_;rw[pq,gm1];rfl
 have C:=mO (b:=b) (k:=.code (.block c.BQ (.loop c.lb))::k) (cs:=cs) (w':=w1.alloc _) (ops:=#[c.oL,c.oR]) (i:=1) (rest:=[]) (o:=c.oR) (N:=.value _) (v:=.pointer _) rfl (xR hc.gR)
  (fun d hd=>by rw[hc.opR] at hd;cases hd) (by
   have:(do pure (.value (<- Instr.range c.tM (a1.eval (.tmp c.d4)))):Sem Next).run P w1=.ok (.value (.pointer (some ⟨w1.heap.size,0,none⟩))) (w1.alloc (.mapIter (some G) clock #[] clock)):=by simp[Instr.range,hev,iQ hc.und,getObj,Sem.run,o2]
   unfold execOp;rw[hc.opR];exact this) (.inl rfl)
 rw[hc.dR] at C;have D:(w1.alloc _).heap=w1.heap.push (.mapIter (some G) clock #[] clock):=rfl;have huI:U h.next=.dC:=q3.born _ (hu _ (aA _) (by omega)) (.inr (aA _));obtain⟨s1,s2⟩:=acT q4 huI D rfl;generalize B:upd U h.next (.at_ w1.heap.size 0)=r at *;generalize hw2:w1.alloc (.mapIter (some G) clock #[] clock)=w2 at *;have hw2r:w2.heap[w1.heap.size]?=some (.mapIter (some G) clock #[] clock):=by rw[D];simp
 have hn2:r h.next=.at_ w1.heap.size 0:=by rw[<-B,upd_same]
 have J:Stp ρ h w r ⟨h.t,h.next+1,h.log⟩ w2:=q3.trans s1;have hrge:w.heap.size<=w1.heap.size:=q3.size;have Z:=G0.ok;have X:(fG.st0 h TB t0).IQ h TB ⟨h.t,h.next+1,[]⟩:=fG.aaY (fun _=>rfl) rfl rfl;have hr':HR ρ ⟨h.t,h.next,[]⟩ w:=⟨hr.fD,hr.ob,hr.inj⟩;have Y:Stp ρ ⟨h.t,h.next,[]⟩ w r ⟨h.t,h.next+1,[]⟩ w2:=J.aij (l:=[]) rfl;have s2':HR r ⟨h.t,h.next+1,[]⟩ w2:=⟨s2.fD,s2.ob,s2.inj⟩;have hnxE:(fG.st0 h TB t0).nx<=h2.next:=by show h.next+1<=h2.next;omega
 have A0:=Cst.At.start Z hr hu hnxE Y s2' X;have hap:∀b kb,(h.get b).isSome=true->r b≠.at_ w1.heap.size kb:=fun b kb hb hx=>by
  obtain⟨o,ho⟩:=gQ.1 hb;obtain⟨x,k1,o',g1,g2,_⟩:=q4.ob b o ho;have hne:b≠h.next:=fun e1=>by subst e1;rw[huI] at g1;cases g1
  rw[<-B,bJ _ _ hne,g1] at hx;cases hx
  have:=(aP.1 g2).1
  omega
 have Lo:BH r ((fG.st0 h TB t0).h0 h) h.next w1.heap.size (.mapIter (some G) clock #[] clock) w2:=⟨hn2,fun b kb hb hx=>by
  obtain⟨o,ho⟩:=gQ.1 hb;have ho:(yK (fG.st0 h TB t0).ms h.t).get b=some o:=ho;rcases Oj Z.low ho with h1|⟨_,h1⟩
  .obtain⟨o1,g1,_⟩:=X.ms _ h1
   have g1:h.get b=some o1:=g1;exact hap b kb (by rw[g1];rfl) hx
  have h1:h.get b=some o:=h1;exact hap b kb (by rw[h1];rfl) hx,hw2r⟩
 have tr0:TR r n t0 (a1.put (some c.d5) (.pointer (some ⟨w1.heap.size,0,none⟩))).tmps:=(q5.mono s1.le).put et0 (.ptr ⟨by show BR r h.next w1.heap.size;unfold BR;rw[hn2],rfl,rfl,rfl⟩);generalize ha2:a1.put (some c.d5) (.pointer (some ⟨w1.heap.size,0,none⟩))=a2 at *;have hda2:a2.defers=a.defers:=by rw[<-ha2,put_defers,q2]
 have hmN2:r m=.at_ G kA:=by
  have hne:m≠h.next:=fun e1=>by have:=O m _ hm;omega
  rw[<-B,bJ _ _ hne];exact o1
 have K0:fG.At f n h ρ w TB m G clock w1.heap.size [] (fG.st0 h TB t0) r b a2 w2:=⟨A0,⟨hs.L9,hs.kind,hs.LW.mono J.le,tr0,by rw[hda2];exact hs.marks.mono J.le⟩,⟨#[],Lo,.refl _⟩,⟨kA,hmN2⟩⟩;obtain⟨S,T,Q,V,p1,K3,hS,R⟩:=fG.rounds (b:=b) (kk:=.inBlock c.BQ::k) (cs:=cs) hI hD hc hr hu hm E s L hfl hrge es.length _ F ego n2 (fun p hp=>by obtain rfl:=eY.1 hp;exact G0) _ (eY.2 rfl) r a2 w2 K0;obtain⟨A3,A,⟨seen,Lo3,K⟩,⟨kA3,hmN3⟩⟩:=K3;have hgm3:(F.h0 h).get m=some (.map es clock):=by
  have h0:=O m _ hm;have h1:m<h.next\/F.nx<=m:=by omega
  exact(Cst.rJ R.ok E h1).trans hm
 have hgI3:(F.h0 h).get h.next=none:=by
  have h1:(F.h0 h).get h.next=h.get h.next:=Oi R.ok.low R.free;rw[h1];cases hx:h.get h.next with
  |none=>rfl
  |some o=>
  have:=O _ _ hx
  omega
 obtain⟨x3,kx3,om3,m31,m32,rfl,_⟩:=A3.hr.ob m _ hgm3;rw[hmN3] at m31;cases m31;have hev3:Q.eval (.tmp c.d5)=.pointer (some ⟨w1.heap.size,0,none⟩):=NM A.tmps R.d5 Lo3.name;have I:leftOf ⟨es⟩ seen=#[]:=by
  unfold leftOf;rw[Array.filter_eq_empty_iff];intro x hx;have:x.born∈seen:=by simpa using K.mem_iff.2 (hS x (by simpa using hx))
  simpa using this
 rcases run_next_at (P:=P) V c.oN.type w1.heap.size G clock clock seen ⟨es⟩ clock Lo3.obj m32 (fun x hx=>s x hx) (aA _) with⟨_,hrun⟩|⟨e,heL,_⟩;case inr=>rw[I] at heL;simp at heL
 have u:=mO (P:=P) (b:=b) (a:=Q) (k:=.code (.seq (.cond c.c7 .skip (.exit c.BQ)) (.block c.qE c.inner))::.inLoop c.lb::.inBlock c.BQ::k) (cs:=cs) (w:=V) (w':=V) (ops:=⟨c.oN::c.lC⟩) (i:=0) (rest:=List.range' 1 c.lC.length) (o:=c.oN) (N:=.value (.tuple #[.bool false])) (v:=.tuple #[.bool false]) rfl (xR hc.gN)
  (fun d hd=>by rw[hc.opN] at hd;cases hd) (by
   have:(do pure (.value (<- Instr.next (Q.eval (.tmp c.d5)) false c.oN.type)):Sem Next).run P V=.ok (.value (.tuple #[.bool false])) V:=by simp[hev3,hrun]
   unfold execOp;rw[hc.opN];exact this) (.inl rfl)
 rw[hc.dN] at u;have trN:TR T n tN (Q.put (some c.d6) (.tuple #[.bool false])).tmps:=A.tmps.put etN (dX rfl);generalize ha4:Q.put (some c.d6) (.tuple #[.bool false])=a4 at *;have hda4:a4.defers=Q.defers:=by rw[<-ha4,put_defers]
 have hu3:lK T F.nx h2.next:=A3.unb R.ok hu;obtain⟨ρ4,a5,w4,g1,g2,g3,g4,g5⟩:=Jk (b:=b) (k:=.code (.seq (.cond c.c7 .skip (.exit c.BQ)) (.block c.qE c.inner))::.inLoop c.lb::.inBlock c.BQ::k) (cs:=cs) hI (ops:=⟨c.oN::c.lC⟩) (i:=1) rfl e2 trN A3.hr hu3;have M:a5.eval c.c7=.bool false:=(fA g5 _ _ e7).gZ;have AE:=A3.step R.ok okE hr hu (aA _) g3 g4 W;refine⟨ρ4,a5,w4,?_,AE.stp.EO h.log,AE.hr.EO,A.L9,A.kind,A.LW.mono g3.le,g5,by rw[g2,hda4];exact A.marks.mono g3.le⟩;have hrg:List.range (⟨c.oN::c.lC⟩:Array bn).size=0::List.range' 1 c.lC.length:=by rw[yV];simp[uw]
 have hrg0:List.range (#[c.oL,c.oR]:Array bn).size=[0,1]:=rfl;refine yU (.head kL (.head Gv ?_)) (yU p1 (.head kL (.head Gv ?_)))
 .rw[hrg0]
  exact q1.trans (.head C (.head PV (.head Gu (.one PT))))
 rw[hrg];refine .head u (g1.trans (.head kL (.head (DU M) (.one (UX ?_)))));simp[exitTo]
def LX(P:aH)(inv:Iv)(c:fG)(f0:aI):aI->List ae->H->aB (aB (ae×H)):=fun f args h=>match Nat.beq f f0 with
|true=>match c.di P inv f0 args h with
 |some r=>some (some r)
 |none=>none
|false=>none
theorem Ou(hI:kS P inv)(hD:iR P inv){c f0}(hc:c.OK P f0):fE P (LX P inv c f0):=fun f args h v h' e=>by
 unfold LX at e;split at e
 .rename_i hf;obtain rfl:=bG hf
  split at e
  .rename_i r a;simp[kG] at e;subst e;exact fG.does hI hD hc a
  cases e
 cases e
end
section
variable{P:aH}
def Entry.ab9(P:aH)(hk:Hook)(d nx:Nat)(e:Entry):Bool:=match Jf P hk d e.f e.args e.kn nx with
|some v=>Be v e.v
|none=>false
theorem Entry.asked{hk}(b:fE P hk){d nx}{e:Entry}(h:e.ab9 P hk d nx=true):e.ok P:=by
 unfold Entry.ab9 at h;split at h
 .rename_i v a;obtain rfl:=lY h;exact⟨VN b a,NJ a⟩
 cases h
theorem zk{hk}(a:fE P hk){d nx}{es:List Entry}(h:es.all (fun e=>e.ab9 P hk d nx)=true):∀e∈es,e.ok P:=fun e he=>Entry.asked a (bZ.1 h e he)
def Made.ab9(P:aH)(hk:Hook)(d:Nat)(e:Made):Bool:=Yx P hk d e.f e.args e.kn e.nx e.v e.born e.nx'&&(e.kn.all (fun p=>Nat.blt p.1 top)&&e.born.all (fun p=>Nat.blt p.1 top&&Nat.ble e.nx p.1&&Nat.blt p.1 e.nx'))
theorem Made.asked{hk}(a:fE P hk){d}{e:Made}(h:e.ab9 P hk d=true):e.ok P:=by unfold Made.ab9 at h;rw[aT] at h;exact⟨ad6 a h.1,h.2⟩
theorem ahc{α:Type}{p:α->Prop}{a b:List α}(h1:∀e∈a,p e)(h2:∀e∈b,p e):∀e∈a++b,p e:=fun e he=>(pY.1 he).elim (h1 e) (h2 e)
theorem gB{α:Type}{p:α->Prop}{a l}(h1:p a)(h2:∀e∈l,p e):∀e∈a::l,p e:=fun e he=>(dW.1 he).elim (fun h=>h▸h1) (h2 e)
theorem all_none{α:Type}{p:α->Prop}:∀e∈([]:List α),p e:=fun e he=>by simp at he
end
section
variable{P:aH}{inv:Iv}
abbrev Lev:=List Pre×T ae×Nat
section
variable(P:aH)(inv:Iv)(c:eQ)(f:aI)(n:Nat)(h:H)(nb:Nat)(e:aZ)(z:Nat)
def eQ.Zv(sts:List Pre)(t:T ae)(nx:Nat)(l':Lev):Bool:=
 match eQ.outs P inv c f n h nb e z t nx sts with
 |some os=>eQ.aar h nb e z l'.1 l'.2.1 l'.2.2 os&&Nat.ble nx l'.2.2
 |none=>false
inductive eQ.Chain:Lev->List Lev->Prop
 |one (l:Lev):eQ.Chain l []
 |cons {l l':Lev} {ls:List Lev} (hs:∀p∈l.1,eQ.Zv P inv c f n h nb e z [p] l.2.1 l.2.2 l'=true) (hn:l.2.2<=l'.2.2) (hc:eQ.Chain l' ls):eQ.Chain l (l'::ls)
def eQ.last:Lev->List Lev->Lev
|l,[]=>l
|_,l'::ls=>eQ.last l' ls
end
section
variable{c:eQ}{f:aI}{n:Nat}{h:H}{nb:Nat}{e:aZ}{z:Nat}
theorem eQ.Chain.le:∀{l ls},eQ.Chain P inv c f n h nb e z l ls->l.2.2<=(eQ.last l ls).2.2
|_,_,.one _=>aA _
|_,_,.cons _ hn hc=>bM hn hc.le
theorem eQ.aaX{b t nx l'}(hs:eQ.Zv P inv c f n h nb e z b t nx l'=true):nx<=l'.2.2/\∀p∈b,p.2≠[]/\∀x q,(x,q)∈takes p.2->∃t' h',jd P inv f n none c.lb ⟨t,⟨T.put T.deep h.t nb (some (.half (p.1++x) q e z)),nx,[]⟩,[]⟩=some (.normal,⟨t',h',[]⟩)/\lU Be t' l'.2.1=true/\∃g∈l'.1,(eQ.st nb e z g l'.2.2 l'.2.1).IQ h [nb] h':=by
 unfold eQ.Zv at hs;split at hs;case h_2=>cases hs
 rename_i os m;simp only[aT] at hs;refine⟨iF hs.2,fun p hp=>?_⟩;have⟨j,d⟩:=eQ.wI m p hp;refine⟨j,fun x q hx=>?_⟩;have⟨t2,h2,g1,l⟩:=d x q hx;have a:=bZ.1 (hs.1) _ l;simp only[aT] at a;have⟨g,k,i⟩:=jA.1 a.2;exact⟨t2,h2,g1,a.1,g,k,Cst.vS wU i⟩
theorem eQ.split{p nx t}(hb:nb<top)(hk:(h.get nb).isSome=true)(j:h.next<=nx){ρ0 ρ w0 w}(A:(eQ.st nb e z p nx t).At ρ0 h w0 [nb] ρ w)(i:p.2≠[]):∃x q,(x,q)∈takes p.2/\(eQ.st nb e z (p.1++x,q) nx t).At ρ0 h w0 [nb] ρ w:=by
 have k:((eQ.st nb e z p nx t).h0 h).get nb=some (.half p.1 p.2 e z):=by show(yK _ h.t).get nb=_;simp[eQ.st,yK];rw[T.get_put _ _ _ _ _ (df hb),aY rfl]
 have⟨x0,s,o',g1,C,g3⟩:=A.hr.ob nb _ k;have⟨x,q,g,B⟩:=g3.Ij i;have d:=eQ.CJ (e:=e) (z:=z) (p:=(p.1++x,q)) (t:=t) hb hk j;refine⟨x,q,g,A.known d rfl ?_⟩;have b:∀y,((eQ.st nb e z (p.1++x,q) nx t).h0 h).get y=if y=nb then some _ else h.get y:=fun y=>by exact T.get_put _ _ _ _ _ (df hb)
 have D:∀y,((eQ.st nb e z p nx t).h0 h).get y=if y=nb then some _ else h.get y:=fun y=>by exact T.get_put _ _ _ _ _ (df hb)
 have known:∀y,(((eQ.st nb e z _ nx t).h0 h).get y).isSome=true->(((eQ.st nb e z p nx t).h0 h).get y).isSome=true:=fun y hy=>by
  rw[b] at hy;rw[D];split at hy
  .rename_i a;rw[aY a];rfl
  rename_i a;rw[aU a];exact hy
 refine⟨A.hr.fD,fun y r hy=>?_,fun y o m l l' h1 h2 v u=>A.hr.inj y o m l l' (known y h1) (known o h2) v u⟩;rw[b] at hy;split at hy
 .rename_i a;cases hy;subst a;exact⟨x0,s,o',g1,C,B⟩
 rename_i a;exact A.hr.ob y r (by rw[D,aU a];exact hy)
theorem eQ.Chain.go(hI:kS P inv)(hD:iR P inv)(hb:nb<top)(hk:(h.get nb).isSome=true){ρ0:jV}{w0:ay}{hi:Nat}(o:HR ρ0 h w0)(hu:lK ρ0 h.next hi){b:aC}{kk:List ig}{cs:List aC}:∀{l:Lev} {ls:List Lev},eQ.Chain P inv c f n h nb e z l ls->h.next<=l.2.2->(eQ.last l ls).2.2<=hi->∀p∈l.1,∀(ρ:jV) (a:Act) (w:ay),(eQ.st nb e z p l.2.2 l.2.1).At ρ0 h w0 [nb] ρ w->Sits ρ f n none ⟨l.2.1,(eQ.st nb e z p l.2.2 l.2.1).h0 h,[]⟩ b a->∃v∈(eQ.last l ls).1,∃ρ' a' w',Steps P (lone (b.atR a (.code c.lb::.inLoop c.lb::kk)) cs w) (lone (b.atR a' (.code c.lb::.inLoop c.lb::kk)) cs w')/\(eQ.st nb e z v (eQ.last l ls).2.2 (eQ.last l ls).2.1).At ρ0 h w0 [nb] ρ' w'/\Sits ρ' f n none ⟨(eQ.last l ls).2.1,(eQ.st nb e z v (eQ.last l ls).2.2 (eQ.last l ls).2.1).h0 h,[]⟩ b a'
 |l,_,.one _,d,u,p,hp,ρ,a,w,A,hs=>⟨p,hp,ρ,a,w,.refl _ _,A,hs⟩
 |l,_,.cons (l':=l') (ls:=ls) hst hn hc,d,u,p,hp,ρ,a,w,A,hs=>by have W:=hc.le;have g:(eQ.last l' ls).2.2<=hi:=u;have⟨_,s⟩:=eQ.aaX (hst p hp);have⟨K,r⟩:=s p (eY.2 rfl);have⟨x,q,G,Q⟩:=eQ.split hb hk d A K;have⟨t2,h2,i,m,C,M,N⟩:=r x q G;have E:=eQ.CJ (e:=e) (z:=z) (p:=p) (t:=l.2.1) hb hk d;have D:=eQ.CJ (e:=e) (z:=z) (p:=(p.1++x,q)) (t:=l.2.1) hb hk d;have F:=eQ.CJ (e:=e) (z:=z) (p:=C) (nx:=l'.2.2) (t:=l'.2.1) hb hk (bM d hn);have⟨m1,U⟩:=iC hI hD c.lb _ _ i;have T:h2.next<=l'.2.2:=N.next;have I:lK ρ l.2.2 hi:=A.unb E hu;have⟨j,O,w1,B,S,R,k⟩:=U ρ b a (.inLoop c.lb::kk) cs w ⟨hs.L9,hs.kind,hs.LW,hs.tmps,hs.marks⟩ Q.hr (I.sub (aA _) (by show h2.next<=hi;omega));have B:Steps P _ _:=B;have A':=Q.step D F o hu (bM W g) S R N;have J:Sits j f n none ⟨l'.2.1,(eQ.st nb e z C l'.2.2 l'.2.1).h0 h,[]⟩ b O:=⟨k.L9,k.kind,k.LW,k.tmps.lU m,k.marks⟩;have⟨v,L,y,V,w2,s1,s2,s3⟩:=eQ.Chain.go hI hD hb hk o hu (b:=b) (kk:=kk) (cs:=cs) hc (bM d hn) g C M j O w1 A' J;exact⟨v,L,y,V,w2,B.trans (.head PU s1),s2,s3⟩
end
def eQ.endsB(P:aH)(inv:Iv)(c:eQ)(f:aI)(args:List ae)(h:H)(nb:Nat)(q:List (List ae))(e:aZ)(z:Nat)(l lF:Lev)(pre:List ae)(v:ae)(nxE:Nat):Bool:=
 match yA 0 args .nil,Nat.blt nb top,q with
 |some ta,true,_::_=>match jd P inv f (args.length+(c.fn.ntmps-args.length)) none c.c0 ⟨ta,⟨h.t,h.next,[]⟩,[]⟩ with
  |some (.normal,⟨t0,h0,[]⟩)=>match h0.log,Nat.beq h0.next h.next,lU Be t0 l.2.1,Nat.beq l.2.2 h.next,(takes q).all (fun p=>l.1.any fun s=>qC p.1 s.1&&BL qC p.2 s.2) with
   |[],true,true,true,true=>match jd P inv f (args.length+(c.fn.ntmps-args.length)) none c.lb ⟨lF.2.1,⟨T.put T.deep h.t nb (some (.half pre [] e z)),lF.2.2,[]⟩,[]⟩ with
    |some (.exit i,⟨t2,h2,[]⟩)=>match rD P c.fn (.normal,⟨t2,eQ.aes h nb e z pre nxE,[]⟩) with
     |some (u,h3)=>Nat.beq i c.BQ&&(Cst.mk [(nb,.cells pre e (some z))] nxE t2).E8 Yh h [nb] h2&&Be u v&&Nat.beq h2.next nxE&&c.fn.results.isEmpty
     |none=>false
    |_=>false
   |_,_,_,_,_=>false
  |_=>false
 |_,_,_=>false
theorem Yj{fn t b d u}(a:fn.results.isEmpty=true)(e:rD P fn (.normal,⟨t,b,[]⟩)=some (u,d)):d=b:=by
 unfold rD at e;simp[zQ] at e;split at e
 .cases e;rfl
 cases e
theorem eQ.told(hI:kS P inv)(hD:iR P inv){c f}(hc:c.OK P f){args h nb q e z l ls pre v M}(hg:h.get nb=some (.qO q e z))(W:eQ.Chain P inv c f (args.length+(c.fn.ntmps-args.length)) h nb e z l ls)(F:(eQ.last l ls).1=[(pre,[])])(g:eQ.endsB P inv c f args h nb q e z l (eQ.last l ls) pre v M=true):dF P f args h v (eQ.aes h nb e z pre M):=by
 unfold eQ.endsB at g;split at g;case h_2=>cases g
 rename_i ta q1 q2 hta hb;rw[ik] at hb;split at g;case h_2=>cases g
 rename_i t0 h0 e0;split at g;case h_2=>cases g
 rename_i U R C B Y;split at g;case h_2=>cases g
 rename_i i t2 h2 ex;split at g;case h_2=>cases g
 rename_i u h3 J;simp only[aT] at g;obtain⟨⟨⟨⟨X,htk⟩,huv⟩,hnE⟩,Q⟩:=g;obtain rfl:=lY huv;obtain rfl:=bG hnE;have R:=bG R;have B:=bG B;obtain rfl:=bG X;have tk:=Cst.vS wU htk;have h3e:=Yj Q J;rw[h3e] at J;have hk:(h.get nb).isSome=true:=by rw[hg];rfl
 obtain⟨m0,r0⟩:=iC hI hD c.c0 _ _ e0;obtain⟨mx,rx⟩:=iC hI hD c.lb _ _ ex;generalize G:eQ.last l ls=lF at *;have mx:lF.2.2<=h2.next:=mx;have hle:l.2.2<=lF.2.2:=by rw[<-G];exact W.le
 refine A8 hc.ff hc.fb hc.fname hta ⟨by show h.next<=h2.next;omega,fun ρ b a k cs w hs hr hu=>?_⟩ J;have hu:=hu;have hr':HR ρ ⟨h.t,h.next,[]⟩ w:=⟨hr.fD,hr.ob,hr.inj⟩;obtain⟨A,a1,w1,g1,g2,g3,g4⟩:=r0 ρ b a _ cs w ⟨hs.L9,hs.kind,hs.LW,hs.tmps,hs.marks⟩ hr' (hu.sub (aA _) (by show h0.next<=h2.next;omega));have g1:=g1;obtain⟨l0,eL,_,_,_,o,_⟩:=id g2.log;have eL:=eL;rw[U] at eL;have S:l0=[]:=by simpa using eL.symm
 subst S;have o:∀y,h0.get y=h.get y:=fun y=>o y (by simp);have V:h0.get nb=some (.qO (q1::q2) e z):=by rw[o];exact hg
 obtain⟨x0,k0,o',o1,o2,o3⟩:=g3.ob nb _ V;obtain⟨x,q',hxq,o4⟩:=o3.acB.Ij (by simp);obtain⟨s,hsm,D⟩:=jA.1 (bZ.1 Y _ hxq);simp[aT] at D;have O:=iY D.1;have N:=oQ Dt D.2;have o5:OR A k0 (.half s.1 s.2 e z) o':=by obtain⟨p,d,d2,r,z1,z2⟩:=o4;rw[List.nil_append,O] at z2;exact⟨p,d,d2,r,N.symm.trans z1,z2⟩
 have okx:=eQ.CJ (e:=e) (z:=z) (p:=s) (t:=l.2.1) hb hk (aA _);have I:∀y,((eQ.st nb e z s h.next l.2.1).h0 h).get y=if y=nb then some _ else h.get y:=fun y=>by exact T.get_put _ _ _ _ _ (df hb)
 have hrx:HR A ((eQ.st nb e z s h.next l.2.1).h0 h) w1:=by
  have known:∀y,(((eQ.st nb e z s h.next l.2.1).h0 h).get y).isSome=true->(h0.get y).isSome=true:=fun y hy=>by
   rw[I] at hy;rw[o];split at hy
   .rename_i ey;rw[ey,hg];rfl
   exact hy
  refine⟨g3.fD,fun y oy hy=>?_,fun y y' m l l' h1 h2 h3 h4=>g3.inj y y' m l l' (known y h1) (known y' h2) h3 h4⟩;rw[I] at hy;split at hy
  .rename_i ey
   cases hy;subst ey;exact⟨x0,k0,o',o1,o2,o5⟩
  rename_i ey;exact g3.ob y oy (by rw[o];exact hy)
 have hAx:(eQ.st nb e z s h.next l.2.1).At ρ h w [nb] A w1:=by
  refine⟨?_,hrx⟩;refine g2.VD (h2:=(eQ.st nb e z s h.next l.2.1).h h [nb]) (l:=[]) (L:=[nb]++List.range' h.next (h.next-h.next)) (by rw[U];rfl) (by simp[Cst.h,eQ.st]) (by show h0.next<=h.next;omega) (fun b hb=>by simp at hb) (fun b j=>?_) fun b j=>?_
  .simp at j
   subst j;exact .inl hk
  have j:b≠nb:=fun e1=>j (by simp[e1])
  have:=I b
  rw[aU j] at this;exact this
 have Z:(eQ.st nb e z s l.2.2 l.2.1).At ρ h w [nb] A w1:=by rw[B];exact hAx
 obtain⟨pF,E,ρ2,a2,w2,s1,s2,s3⟩:=W.go hI hD hb hk hr hu (b:=b) (kk:=.inBlock c.BQ::k) (cs:=cs) (by omega) (by rw[G];exact mx) s hsm A a1 w1 Z ⟨g4.L9,g4.kind,g4.LW,g4.tmps.lU C,g4.marks⟩;rw[G] at E s2 s3;rw[F] at E;obtain rfl:=eY.1 E;have okF:=eQ.CJ (e:=e) (z:=z) (p:=(pre,[])) (nx:=lF.2.2) (t:=lF.2.1) hb hk (by omega);obtain⟨ρ3,a3,w3,p1,p2,p3,K⟩:=rx ρ2 b a2 (.inLoop c.lb::.inBlock c.BQ::k) cs w2 ⟨s3.L9,s3.kind,s3.LW,s3.tmps,s3.marks⟩ s2.hr (s2.unb okF hu);have okE:(Cst.mk [(nb,.cells pre e (some z))] h2.next t2).OK h [nb]:=by
  refine⟨fun q hq=>?_,fun q hq=>?_,fun b j=>?_,fun b j=>?_,by show h.next<=h2.next;omega⟩
  .obtain rfl:=eY.1 hq;exact hb
  .obtain rfl:=eY.1 hq;exact .inl (by simp)
  .obtain rfl:=eY.1 j;exact hk
  obtain rfl:=eY.1 j;exact⟨_,eY.2 rfl,rfl⟩
 have AE:=s2.step okF okE hr hu (aA _) p2 p3 tk;refine⟨ρ3,a3,w3,?_,AE.stp.EO h.log,AE.hr.EO,K.L9,K.kind,K.LW,K.tmps,K.marks⟩;have hx:=p1.1 k (by simp[exitTo]);exact yU (.head kL g1) (.head Gu (.head PT (s1.trans hx)))
end
section
variable{P:aH}
structure uK where
 f:aI
 args:List ae
 nb:Nat
 q:List (List ae)
 e:aZ
 z:Nat
 v:ae
 pre:List ae
 nx:Nat
 nx':Nat
def uK.h(s:uK):H:=⟨T.put T.deep .nil s.nb (some (.qO s.q s.e s.z)),s.nx,[]⟩
structure uK.ok(P:aH)(s:uK):Prop where
 does:dF P s.f s.args s.h s.v (eQ.aes s.h s.nb s.e s.z s.pre s.nx')
 low:s.nb<top
theorem uK.get(s:uK)(hl:s.nb<top)(b):s.h.get b=if b=s.nb then some (.qO s.q s.e s.z) else none:=by
 have:s.h.get b=if b=s.nb then some _ else(T.nil:T Ob).get b:=T.get_put _ _ _ _ _ (df hl)
 rw[this];rfl
theorem uK.agV{s:uK}(ok:s.ok P){h F}(hn:h.next<=s.nx)(hg:h.get s.nb=some (.qO F s.e s.z))(hp:F.Perm s.q):dF P s.f s.args h s.v ⟨T.put T.deep h.t s.nb (some (.cells s.pre s.e (some s.z))),s.nx',s.nb::List.range' s.nx (s.nx'-s.nx)++h.log⟩:=by
 have⟨I,hl⟩:=ok;have⟨r,fn,c,O,N,M,_⟩:=id I;have r:=r;refine dF.NY (bM hn r) O N M fun{ρ D w} ha hr hu=>?_;have hu:=hu;have⟨x0,S,o0,E,L,K⟩:=hr.ob s.nb _ hg;have u:HR ρ s.h w:=by
  refine⟨hr.fD,fun b o hb=>?_,fun b c x k l hb hc _ _=>?_⟩
  .rw[uK.get s hl] at hb
   split at hb
   .rename_i e;cases hb;subst e;exact⟨x0,S,o0,E,L,K.Vx hp⟩
   cases hb
  rw[uK.get s hl] at hb hc;split at hb
  .rename_i W
   split at hc
   .rename_i V;rw[W,V]
   cases hc
  cases hb
 refine(I.calls ha u (hu.sub hn (aA _))).mono ?_;rintro en w' ⟨v',ρ',rfl,s1,s2,s3⟩;have⟨l,l1,l2,Q,l4,l5,G⟩:=s1.log;have B:s.nb::List.range' s.nx (s.nx'-s.nx)=l:=by have l1:=l1;exact Sl l1
 subst B;have a:∀b,b∈List.range' s.nx (s.nx'-s.nx)↔s.nx<=b/\b<s.nx':=fun b=>by rw[BC];omega
 have j:∀b,(⟨T.put T.deep h.t s.nb _,s.nx',s.nb::List.range' s.nx (s.nx'-s.nx)++h.log⟩:H).get b=if b=s.nb then some (.cells s.pre s.e (some s.z)) else h.get b:=fun b=>T.get_put _ _ _ _ _ (df hl)
 have C:(eQ.aes s.h s.nb s.e s.z s.pre s.nx').get s.nb=some (.cells s.pre s.e (some s.z)):=by show(T.put T.deep _ s.nb _).get s.nb=_;rw[T.get_put _ _ _ _ _ (df hl),aY rfl]
 have⟨J,X,o1,t1,t2,t3⟩:=s2.ob s.nb _ C;have A:ρ' s.nb=ρ s.nb:=by
  rcases s1.le s.nb with e|e|e
  .rw[E] at e;cases e
  .exact e
  rw[t1] at e;cases e
 have p:∀b o,b≠s.nb->h.get b=some o->b∉s.nb::List.range' s.nx _:=fun b o hb g hm=>by
  rcases dW.1 hm with h1|h1
  .exact hb h1
  have⟨y,R,_,g1,_⟩:=hr.ob b o g;have:=(a b).1 h1;rw[hu b (by omega) this.2] at g1;cases g1
 have d:∀b o,b≠s.nb->h.get b=some o->ρ' b=ρ b:=fun b o hb g=>by have⟨y,R,_,g1,_⟩:=hr.ob b o g;exact G b (p b o hb g) (by rw[g1];exact fun h=>by cases h)
 have i:∀b,(h.get b).isSome=true->ρ' b=ρ b:=fun b hb=>by
  have⟨o,ho⟩:=gQ.1 hb;by_cases e:b=s.nb
  .rw[e];exact A
  exact d b o e ho
 have known:∀b,((⟨T.put T.deep h.t s.nb _,s.nx',s.nb::List.range' s.nx _++h.log⟩:H).get b).isSome=true->(h.get b).isSome=true:=fun b hb=>by
  rw[j] at hb;split at hb
  .rename_i e;rw[e,hg];rfl
  exact hb
 refine⟨v',ρ',rfl,⟨s1.le,bM hn r,fun b hb hx=>s1.born b hb (by have hx:b<h.next\/s.nx'<=b:=hx;show b<s.nx\/s.nx'<=b;omega),s1.size,s.nb::List.range' s.nx _,rfl,l2,Q,fun b hb=>?_,fun b hb=>?_,G⟩,⟨s2.fD,fun b o hb=>?_,fun b c x k l hb hc hx hy=>?_⟩,s3⟩
 .rcases dW.1 hb with rfl|h1
  .exact .inl (by rw[hg];rfl)
  have:=(a b).1 h1;exact .inr ⟨by omega,this.2⟩
 .rw[j,aU fun e=>hb (by rw[e];exact fZ ..)]
 .rw[j] at hb
  split at hb
  .rename_i e;cases hb;subst e;exact⟨J,X,o1,t1,t2,t3⟩
  rename_i e;have⟨x,k,o',g1,U,g3⟩:=hr.ob b o hb;refine⟨x,k,o',by rw[d b o e hb];exact g1,l2 x o' U fun c m hc n=>?_,g3.mono s1.le⟩;rcases dW.1 hc with rfl|h1
  .exact e (hr.inj b s.nb x k m (by rw[hb];rfl) (by rw[hg];rfl) g1 n)
  have:=(a c).1 h1;rw[hu c (by omega) this.2] at n;cases n
 have h1:=known b hb;have h2:=known c hc;rw[i b h1] at hx;rw[i c h2] at hy;exact hr.inj b c x k l h1 h2 hx hy
def ahC(s:uK)(f:aI)(args:List ae)(h:H):Bool:=match Nat.beq s.f f with
|true=>match Nat.ble h.next s.nx with
 |true=>match qC s.args args with
  |true=>match h.get s.nb with
   |some (.qO q' e' z')=>BL qC q' s.q&&Nat.beq e' s.e&&Nat.beq z' s.z
   |_=>false
  |false=>false
 |false=>false
|false=>false
def aee(f:aI)(args:List ae)(h:H):List uK->aB (aB (ae×H))
|[]=>none
|s::es=>match ahC s f args h with
 |true=>some (some (s.v,⟨T.put T.deep h.t s.nb (some (.cells s.pre s.e (some s.z))),s.nx',s.nb::List.range' s.nx (s.nx'-s.nx)++h.log⟩))
 |false=>aee f args h es
def SS(es:List uK):Hook:=fun f args h=>aee f args h es
theorem XH{es}(hok:∀s∈es,s.ok P):fE P (SS es):=by
 intro f args h v h' hf;unfold SS at hf;induction es with
 |nil=>cases hf
 |cons s es ih=>
 simp[aee] at hf;split at hf
 .rename_i a;obtain⟨rfl,rfl⟩:=hf;unfold ahC at a
  split at a;case h_2=>cases a
  rename_i h1;split at a;case h_2=>cases a
  rename_i h2;split at a;case h_2=>cases a
  rename_i b;split at a;case h_2=>cases a
  rename_i q' e' z' hg;simp only[aT] at a;obtain rfl:=bG h1;obtain rfl:=iY b;have d:=bG a.1.2;have c:=bG a.2;subst d c;exact uK.agV (hok s (by simp)) (iF h2) hg (oQ Dt a.1.1)
 exact ih (fun s hs=>hok s (by simp[hs])) hf
end
end Go.Ev
