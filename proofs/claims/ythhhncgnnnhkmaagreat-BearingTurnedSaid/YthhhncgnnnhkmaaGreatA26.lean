import Derived.Test.YthhhncgnnnhkmaaGreatA25
set_option linter.all false
namespace Go.Crew
open Go.Conc Go.ConcN Go.Ren
def Rcv.exitO(P:Program)(L:List FuncId)(c:Rcv)(n:Nat)(tL:Ev.T Value):Bool:=
 Ev.flat c.zch&&match Ev.puresO P L n [c.o14r,c.o14e] [c.o14e] (Ev.T.put Ev.T.deep tL c.d28 (some (.tuple ⟨[c.zch,.bool false]⟩))) with
 |some t2=>(match Ev.evalO t2 c.c29 with|some (.bool false)=>true|_=>false)&&Ev.subT tL t2
 |none=>false
section
variable{P:Program}{L N:List FuncId}{c:Rcv}{Z:Nat→Prop}{w00:World}{Post:Value→World→Prop}
theorem Rcv.exit(hz:ZeroOK P)(hSk:SOK P (·∈L))(hc:c.OK P L N){ρ:Ev.Nms}{n nC gC kC cap nn:Nat}(hC:ρ nC=.at_ gC kC)(hgC:gC<nn){tL:Ev.T Value}(hfree:c.free n tL=true)(hch:Ev.evalO tL c.chx=some (.chan (some nC)))(he:c.exitO P L n tL=true){v0:World}{b:Frame}(hbr:b.roundOf=none){k0:List Item}{cs:List Frame}(hcs:Ev.Stk cs){p:List Value}{sv:Value}{a:Act}{v:World}(hG:Got c.el v0 v p sv)(ht:Ev.TR ρ n tL a.tmps)(h9:a.tmps[c.d9]?=some sv)(next:∀a' v',a'.defers=a.defers→Got c.el v0 v' p sv→Ev.TR ρ n tL a'.tmps→a'.tmps[c.d9]?=some sv→@KMF _ _ (spOf P L N) P (·∈L) Z w00 Post nn (ShutF gC cap []) (b.atR a' k0) cs v'):@KMF _ _ (spOf P L N) P (·∈L) Z w00 Post nn (ShutF gC cap []) (b.atR a (.code c.body::.inLoop c.body::.inBlock c.bid2::k0)) cs v:=by
 have hK:Ev.Ups P L N (@KMF _ _ (spOf P L N) P (·∈L) Z w00 Post nn (ShutF gC cap [])):=kmf_ups hz hSk (ShutF.still hgC fun y hy=>by simp at hy)
 have hfr:tL.get c.d28=none∧c.d28<n:=by
  have:=List.all_eq_true.1 hfree c.d28 (by simp)
  simp only[Bool.and_eq_true,Nat.blt_eq] at this
  refine⟨?_,this.2⟩
  have h1:=this.1
  split at h1
  .assumption
  .cases h1
 obtain⟨f28,n28⟩:=hfr
 unfold Rcv.exitO at he
 simp only[Bool.and_eq_true] at he
 obtain⟨hzf,he⟩:=he
 split at he
 case h_2=>cases he
 rename_i t2 e1
 simp only[Bool.and_eq_true] at he
 obtain⟨ec,esub⟩:=he
 split at ec
 case h_2=>cases ec
 rename_i hec
 show @KMF _ _ (spOf P L N) P (·∈L) Z w00 Post nn (ShutF gC cap []) (b.atR a (.code (.seq (.region c.i14 #[c.o14r,c.o14e] false) (.seq (.cond c.c29 .skip (.exit c.bid2)) (.block c.bid3 (.seq (.region c.i15 c.ops15 false) (.region c.i16 #[c.o31,c.o32,c.o34,c.o35,c.o36] false)))))::.inLoop c.body::.inBlock c.bid2::k0)) cs v
 refine ups_seq hK hcs fun v1 g1=>?_
 refine ups_region hK hcs fun v2 g2=>?_
 have hrng:List.range (#[c.o14r,c.o14e]:Array Oper).size=[0,1]:=rfl
 rw[hrng]
 have hwr:Region.wanted c.o14r (yielded #[c.o14r,c.o14e] a.tmps)=true:=by unfold Region.wanted;rw[hc.rg]
 have hvc:a.eval c.chx=.chan (some gC):=by
  have h3:=Ev.env_of ht _ _ hch
  generalize a.eval c.chx=x at h3
  cases h3 with
  |same h=>cases h
  |chan h4=>rw[h4.at_ hC]
 refine @KMF.recv0 (spOf P L N) P (·∈L) Z w00 Post b a _ cs v2 #[c.o14r,c.o14e] 0 [1] c.o14r hbr rfl hwr c.tch c.elch c.dch c.chx c.zch hc.rop hc.tch hc.zch (Ev.opnd_mono hc.chok) gC cap nn hvc hc.zcl ?_
 rw[hc.rd]
 generalize ha1:a.put (some c.d28) (.tuple #[c.zch,.bool false])=a1
 have ht1:Ev.TR ρ n (Ev.T.put Ev.T.deep tL c.d28 (some (.tuple ⟨[c.zch,.bool false]⟩))) a1.tmps:=by
  have h1:Ev.TR ρ n tL a1.tmps:=by rw[←ha1];exact ht.put_free f28 _
  exact h1.know hc.l28 (v:=.tuple #[c.zch,.bool false]) (by rw[←ha1];exact Ev.put_same a (by rw[ht.size];exact n28) _) (.tuple (.cons (Ev.flat_self hzf) (.cons (.same rfl) .nil)))
 have h91:a1.tmps[c.d9]?=some sv:=by rw[←ha1,Ev.put_other _ hc.n9.2.2];exact h9
 have hrng1:([1]:List Nat)=List.range' 1 [c.o14e].length++[]:=rfl
 rw[hrng1]
 refine hK.pures2 hcs (l:=[c.o14e]) (i:=1) (rest:=[]) (fun j hj=>by simp at hj;subst hj;rfl) e1 ht1 fun a2 v3 d1 d2 d3 d4=>?_
 have h92:a2.tmps[c.d9]?=some sv:=by rw[d4 c.d9 (fun o ho=>by rw[List.mem_singleton.1 ho];exact hc.k14)];exact h91
 refine ups_end hK hcs fun v4 g4=>?_
 refine ups_seq hK hcs fun v5 g5=>?_
 refine ups_cond hK hcs (q:=false) (Ev.env_of d3 _ _ hec).inv_bool fun v6 g6=>?_
 refine ups_exit hK hcs (k':=k0) (by simp[exitTo]) fun v7 g7=>?_
 exact next a2 v7 (by rw[d1,←ha1,Ev.put_defers]) (hG.same (by rw[g7,g6,g5,g4,d2,g2,g1])) (d3.sub esub) h92
theorem Rcv.rounds(hz:ZeroOK P)(hSk:SOK P (·∈L))(hc:c.OK P L N){ρ:Ev.Nms}{v0:World}{n nC gC kC cap nn:Nat}(hC:ρ nC=.at_ gC kC)(hgC:gC<nn){tL:Ev.T Value}(hfree:c.free n tL=true)(hch:Ev.evalO tL c.chx=some (.chan (some nC)))(he:c.exitO P L n tL=true){b:Frame}(hbr:b.roundOf=none){k0:List Item}{cs:List Frame}(hcs:Ev.Stk cs):∀(l:List (Nat×Nat×Nat)),(∀x∈l,x.1<nn∧∃u,Ev.VR ρ u (sliceV x)∧(∀y,Ev.VR ρ u y→y=sliceV x)∧c.roundO P L n tL u=true)→∀(p:List Value) (sv:Value) (a:Act) (v:World),p.length+l.length<1000000→Got c.el v0 v p sv→Ev.TR ρ n tL a.tmps→a.tmps[c.d9]?=some sv→(∀a' v' sv',a'.defers=a.defers→Got c.el v0 v' (p++l.map sliceV) sv'→Ev.TR ρ n tL a'.tmps→a'.tmps[c.d9]?=some sv'→@KMF _ _ (spOf P L N) P (·∈L) Z w00 Post nn (ShutF gC cap []) (b.atR a' k0) cs v')→@KMF _ _ (spOf P L N) P (·∈L) Z w00 Post nn (ShutF gC cap l) (b.atR a (.code c.body::.inLoop c.body::.inBlock c.bid2::k0)) cs v
 |[],hl,p,sv,a,v,hp,hG,ht,h9,next=>Rcv.exit hz hSk hc hC hgC hfree hch he hbr hcs hG ht h9 fun a' v' d1 d2 d3 d4=>next a' v' sv d1 (by rw[List.map_nil,List.append_nil];exact d2) d3 d4
 |x::l,hl,p,sv,a,v,hp,hG,ht,h9,next=>by
  obtain⟨q0,u,q1,q2,q3⟩:=hl x (by simp)
  have hp':p.length+(l.length+1)<1000000:=hp
  refine Rcv.round hz hSk hc hC hgC hfree hch q1 q2 q0 q3 hbr hcs (by omega) (fun y hy=>(hl y (by simp[hy])).1) hG ht h9 fun a' v' sv' d1 d2 d3 d4=>?_
  exact Rcv.rounds hz hSk hc hC hgC hfree hch he hbr hcs l (fun x hx=>hl x (by simp[hx])) (p++[sliceV x]) sv' a' v' (by simp;omega) d2 d3 d4 fun a2 v2 sv2 r1 r2 r3 r4=>next a2 v2 sv2 (r1.trans d1) (by rw[List.append_assoc] at r2;exact r2) r3 r4
end
open Go.Ev
def bagH(elT:TypeId)(us:List Value)(h:H):H:=⟨T.put T.deep h.t h.next (some (.bag us elT)),h.next+1,[h.next]++h.log⟩
theorem Got.bag{ρ:Nms}{h:H}{v0 v:World}{elT:TypeId}{us p pl:List Value}{sv:Value}(hr:HR ρ h v0)(hG:Got elT v0 v pl sv)(hperm:p.Perm us)(hv:VRs ρ p pl)(hne:us≠[])(hu:ρ h.next=.unborn)(htop:h.next<top):∃ρ',Stp ρ h v0 ρ' (bagH elT us h) v∧HR ρ' (bagH elT us h) v∧VR ρ' (.slice (some ⟨h.next,0,none⟩) us.length Ev.soft) sv:=by
 have hlen:pl.length=us.length:=by have:=hv.length;have:=hperm.length_eq;omega
 have hpl:pl≠[]:=fun e=>by rw[e] at hlen;exact hne (List.length_eq_zero_iff.1 hlen.symm)
 rcases hG.row with⟨h1,_⟩|⟨A,cA,r,rfl,z1,z2,z3⟩
 .exact absurd h1 hpl
 have hle:Ev.Le ρ (Ev.upd ρ h.next (.at_ A cA)):=le_new hu _
 have hother:∀b,b≠h.next→Ev.upd ρ h.next (.at_ A cA) b=ρ b:=fun b hb=>Ev.upd_other _ _ hb
 have hget:∀b,(bagH elT us h).get b=if b=h.next then some (.bag us elT) else h.get b:=fun b=>T.get_put _ _ _ _ _ (top_deep htop)
 have hgr:HR ρ h v:=hG.hr hr
 have hold:∀b o,h.get b=some o→b≠h.next:=fun b o hb e=>by
  subst e
  obtain⟨x,k,o',q1,_⟩:=hr.ob _ o hb
  rw[hu] at q1;cases q1
 refine⟨Ev.upd ρ h.next (.at_ A cA),⟨hle,Nat.le_succ _,fun b h1 h2=>?_,hG.size,[h.next],rfl,fun x o hx _=>by rw[hG.old x (Array.getElem?_eq_some_iff.1 hx).1];exact hx,fun b x k hb=>?_,fun b hb=>?_,fun b hb=>?_,fun b hb _=>?_⟩,⟨hG.tame,fun b o hb=>?_,fun b d x k l hb hd hx hy=>?_⟩,?_⟩
 .have h2:b<h.next∨h.next+1≤b:=h2
  rw[hother b (by omega)];exact h1
 .by_cases e:b=h.next
  .subst e
   rw[Ev.upd_same] at hb
   cases hb
   exact .inr ⟨hu,.inl z3⟩
  .rw[hother b e] at hb;exact .inl hb
 .have:=List.mem_singleton.1 hb
  subst this
  exact .inr ⟨Nat.le_refl _,Nat.lt_succ_self _⟩
 .rw[hget,if_neg (fun e=>hb (by simp[e]))]
 .exact hother b fun e=>hb (by simp[e])
 .rw[hget] at hb
  split at hb
  .rename_i e
   subst e
   cases hb
   exact⟨A,cA,_,Ev.upd_same _ _ _,z1,p,pl,r,hperm.symm,rfl,hv.mono hle⟩
  .rename_i e
   obtain⟨x,k,o',q1,q2,q3⟩:=hgr.ob b o hb
   exact⟨x,k,o',by rw[hother b e];exact q1,q2,q3.mono hle⟩
 .rw[hget] at hb hd
  have low:∀b x k,b≠h.next→(h.get b).isSome=true→Ev.upd ρ h.next (.at_ A cA) b=.at_ x k→x<v0.heap.size∧ρ b=.at_ x k:=fun b x k e hs hx=>by
   rw[hother b e] at hx
   obtain⟨o,ho⟩:=Option.isSome_iff_exists.1 hs
   exact⟨hr.lt ho hx,hx⟩
  by_cases e1:b=h.next<;>by_cases e2:d=h.next
  .rw[e1,e2]
  .rw[if_neg e2] at hd
   subst e1
   rw[Ev.upd_same] at hx
   cases hx
   have:=(low d _ _ e2 hd hy).1
   omega
  .rw[if_neg e1] at hb
   subst e2
   rw[Ev.upd_same] at hy
   cases hy
   have:=(low b _ _ e1 hb hx).1
   omega
  .rw[if_neg e1] at hb
   rw[if_neg e2] at hd
   exact hr.inj b d x k l hb hd (low b _ _ e1 hb hx).2 (low d _ _ e2 hd hy).2
 .rw[←hlen]
  refine .slice ⟨?_,rfl,rfl,rfl⟩ (.inr ⟨Nat.le_refl _,?_,fun x k hx=>?_⟩)
  .show BR _ h.next A
   unfold BR;rw[Ev.upd_same]
  .rw[←z2];simp
  .have hx':Ev.upd ρ h.next (.at_ A cA) h.next=.at_ x k:=hx
   rw[Ev.upd_same] at hx'
   cases hx';rfl
theorem slice_fn{ρ:Nms}{nm len cap:Nat}{x k:Nat}(hn:ρ nm=.at_ x k){u1 u2:Value}(h1:VR ρ (.slice (some ⟨nm,0,none⟩) len cap) u1)(h2:VR ρ (.slice (some ⟨nm,0,none⟩) len cap) u2):u2=u1:=by
 obtain⟨a1,c1,rfl,p1,q1⟩:=h1.inv_slice
 obtain⟨a2,c2,rfl,p2,q2⟩:=h2.inv_slice
 obtain⟨b1,o1,s1⟩:=a1
 obtain⟨b2,o2,s2⟩:=a2
 have e1:b1=x:=p1.block.at_ hn
 have e2:b2=x:=p2.block.at_ hn
 have e3:o1=0:=p1.off
 have e4:o2=0:=p2.off
 have e5:s1=none:=p1.spot'
 have e6:s2=none:=p2.spot'
 subst e1 e3 e4 e5 e6
 have e7:c1=c2:=by
  rcases q1 with⟨g1,g2⟩|⟨g1,_,g3⟩<;>rcases q2 with⟨k1,k2⟩|⟨k1,_,k3⟩
  .rw[g2,k2]
  .omega
  .omega
  .rw[g3 _ _ hn,k3 _ _ hn]
 rw[e7,e2]
theorem laid_named{ρ:Nms}{h:H}{v:World}(hr:HR ρ h v):∀{p:List Value} {bs:List (Nat×Nat×Nat)},VRs ρ p (bs.map sliceV)→(∀u∈p,∃nm len cap,u=.slice (some ⟨nm,0,none⟩) len cap∧(h.get nm).isSome=true)→∀x∈bs,∃u∈p,VR ρ u (sliceV x)∧∀y,VR ρ u y→y=sliceV x
 |[],[],_,_,x,hx=>by simp at hx
 |[],_::_,h,_,_,_=>by cases h
 |_::_,[],h,_,_,_=>by cases h
 |u::p,y::bs,hv,hm,x,hx=>by
  cases hv with
  |cons h1 h2=>
   rcases List.mem_cons.1 hx with rfl|hx
   .refine⟨u,by simp,h1,fun z hz=>?_⟩
    obtain⟨nm,len,cap,rfl,e1⟩:=hm u (by simp)
    obtain⟨ob,hob⟩:=Option.isSome_iff_exists.1 e1
    obtain⟨xb,k,o',q1,_⟩:=hr.ob _ _ hob
    exact slice_fn q1 h1 hz
   .obtain⟨u',q1,q2⟩:=laid_named hr h2 (fun u hu=>hm u (by simp[hu])) x hx
    exact⟨u',by simp[q1],q2⟩
open Go.Conc.Lib Go.ConcR.Gen Go.ConcN.Gen
structure Lst where
 fn:Func
 cw:Crw
 rc:Rcv
 c0:Code
 i2:Nat
 i3:Nat
 i11:Nat
 ops2:Array Oper
 l2:List Oper
 o2c:Oper
 o2a:Oper
 o2s:Oper
 o3:Oper
 c4:Code
 o11l:Oper
 o11c:Oper
 c12:Code
 c13:Code
 c17:Code
 xcap:Operand
 tel:TypeInfo
 d17:Nat
 d7:Nat
 zg:Value
 d25:Nat
 d26:Nat
 d27:Nat
 ats11:Array TypeId
def Lst.body(c:Lst):Code:=
 .seq c.c0 (.seq (.region c.i2 c.ops2 false) (.seq (.region c.i3 #[c.o3] false) (.seq (.seq c.c4 (.block c.cw.bid (.loop c.cw.loopBody))) (.seq (.region c.cw.i10 #[c.cw.o10] false)
  (.seq (.region c.i11 #[c.o11l,c.o11c] false) (.seq c.c12 (.seq (.seq c.c13 (.block c.rc.bid2 (.loop c.rc.body))) c.c17)))))))
structure Lst.OK(P:Program)(L N:List FuncId)(Lk:WgLink)(c:Lst)(f:FuncId):Prop where
 ff:P.funcs[f]?=some c.fn
 fb:c.fn.body=some c.body
 fname:(c.fn.name == "runtime.NumGoroutine")=false
 fcl:bCodeL P L c.body=true
 cw:c.cw.OK P L N Lk
 rc:c.rc.OK P L N
 l2eq:c.ops2.toList=c.l2++[c.o2c,c.o2a,c.o2s]
 op2c:c.o2c.op=.makeChan c.rc.tch c.xcap
 g2c:c.o2c.guard=none
 d2c:c.o2c.dst=some c.d17
 tel:P.info? c.rc.elch=some c.tel
 telb:c.tel.bytes<1000000
 xcapok:bOpnd P (L++N) c.xcap=true
 op3:c.o3.op=.alloc Lk.tWg
 g3:c.o3.guard=none
 d3:c.o3.dst=some c.d7
 zg:Ev.zeroOf P Lk.tWg=some c.zg
 zgc:c.zg.cells=#[.int .u64 0,.int .u32 0]
 d10:c.cw.o10.dst=some c.d25
 op11c:c.o11c.op=.call {callee:=.builtin .close,args:=#[.tmp c.d26],argTypes:=c.ats11}
 g11c:c.o11c.guard=none
 d11c:c.o11c.dst=none
 chx:c.rc.chx=.tmp c.d27
 l17:c.d17<Ev.top
 l7:c.d7<Ev.top
 l25:c.d25<Ev.top
 l9:c.rc.d9<Ev.top
 l27:c.d27<Ev.top
section
variable(P:Program)(L N:List FuncId)(inv:Ev.Iv)(c:Lst)
def noN:FuncId→List Value→Ev.H→Option (Value×Ev.H):=fun _ _ _=>none
def Lst.preO(args:List Value)(h:Ev.H):Option (Nat×Nat×Nat×Ev.St):=
 match Ev.argsT 0 args .nil with
 |some ta=>match Ev.codeC P L N noN inv (args.length+(c.fn.ntmps-args.length)) c.c0 ⟨ta,h,[]⟩ with
  |some (.normal,s2)=>match Ev.puresO P L (args.length+(c.fn.ntmps-args.length)) c.ops2.toList c.l2 s2.t with
    |some t3=>match Ev.evalO t3 c.xcap with
     |some (.int .i64 (.ofNat m))=>match Nat.blt m 1000000,Ev.opsO P (Ev.invC N noN inv) (Ev.ckN P L N) (args.length+(c.fn.ntmps-args.length)) c.ops2.toList [c.o2a,c.o2s] (Ev.T.put Ev.T.deep t3 c.d17 (some (.chan (some s2.h.next)))) ⟨s2.h.t,s2.h.next+1,s2.h.log⟩ with
      |true,some (t5,h5)=>match Ev.codeC P L N noN inv (args.length+(c.fn.ntmps-args.length)) c.c4 ⟨Ev.T.put Ev.T.deep t5 c.d7 (some (.pointer (some ⟨h5.next,0,none⟩))),⟨h5.t,h5.next+1,h5.log⟩,[]⟩ with
       |some (.normal,s7)=>some (m,s2.h.next,h5.next,s7)
       |_=>none
      |_,_=>none
     |_=>none
    |none=>none
  |_=>none
 |none=>none
def Lst.midO(n nC:Nat)(tE:Ev.T Value)(h:Ev.H):Option Ev.St:=
 match Ev.opsO P (Ev.invC N noN inv) (Ev.ckN P L N) n [c.o11l,c.o11c] [c.o11l] (Ev.strike tE c.d25) h with
 |some (t9,h1)=>match Ev.evalO t9 (.tmp c.d26) with
  |some (.chan (some k))=>match Nat.beq k nC,Ev.codeC P L N noN inv n c.c12 ⟨t9,h1,[]⟩ with
   |true,some (.normal,s10)=>match Ev.codeC P L N noN inv n c.c13 s10 with
    |some (.normal,s11)=>some s11
    |_=>none
   |_,_=>none
  |_=>none
 |none=>none
def Lst.oneO(n nC:Nat)(h:Ev.H)(u:Value):Bool:=
 c.rc.roundO P L n (Ev.T.put Ev.T.deep .nil c.d27 (some (.chan (some nC)))) u&&(match u with|.slice (some ⟨nm,0,none⟩) _ _=>(h.get nm).isSome|_=>false)
def flatsP:List (Option (List Value))→Bool
 |[]=>true
 |none::ps=>flatsP ps
 |some ints::ps=>Ev.flats ints&&flatsP ps
theorem flatsP_mem:∀{ps:List (Option (List Value))},flatsP ps=true→∀ints,some ints∈ps→Ev.flats ints=true
 |[],_,_,h=>by simp at h
 |none::ps,e,ints,h=>flatsP_mem (ps:=ps) e ints (by simpa using h)
 |some i0::ps,e,ints,h=>by
  simp only[flatsP,Bool.and_eq_true] at e
  rcases List.mem_cons.1 h with h|h
  .cases h;exact e.1
  .exact flatsP_mem e.2 ints h
def Lst.atO(n hi nC m:Nat)(ps:List (Option (List Value)))(s7 s11:Ev.St):Bool:=
 Nat.beq ps.length m&&Nat.ble (s7.h.next+m) hi&&(match rowsV ps s7.h.next with | []=>false|_=>true)&&flatsP ps&&Ev.subT (Ev.T.put Ev.T.deep .nil c.d27 (some (.chan (some nC)))) s11.t&&(match s11.t.get c.rc.d9 with|some (.slice none 0 0)=>true|_=>false)&&
  c.rc.free n (Ev.T.put Ev.T.deep .nil c.d27 (some (.chan (some nC))))&&c.rc.exitO P L n (Ev.T.put Ev.T.deep .nil c.d27 (some (.chan (some nC))))&&((rowsV ps s7.h.next).all fun u=>c.oneO P L n nC s11.h u)&&Nat.ble (s11.h.next+1) hi&&Nat.blt s11.h.next Ev.top&&Nat.blt c.cw.d8 n&&Nat.blt c.cw.d23 n&&Nat.blt c.d17 n&&Nat.blt c.d7 n&&Nat.blt c.rc.d9 n&&ps.length.blt 1000000&&Nat.ble (s7.h.next+m) Ev.top&&Nat.ble (s7.h.next+1) hi
def Lst.evalO(hi:Nat)(args:List Value)(h:Ev.H):Option (Value×Ev.H):=
 match c.preO P L N inv args h with
 |some (m,nC,nW,s7)=>match c.cw.roundsO P L N inv (args.length+(c.fn.ntmps-args.length)) nW nC hi ⟨Ev.shutT s7.h.t,s7.h.next,[]⟩ m s7.t with
  |some (ps,tE)=>match c.midO P L N inv (args.length+(c.fn.ntmps-args.length)) nC tE (rowsH c.cw.iT ps s7.h) with
   |some s11=>match c.atO P L (args.length+(c.fn.ntmps-args.length)) hi nC m ps s7 s11 with
    |true=>match Ev.codeC P L N noN inv (args.length+(c.fn.ntmps-args.length)) c.c17 ⟨Ev.T.put Ev.T.deep (Ev.T.put Ev.T.deep .nil c.d27 (some (.chan (some nC)))) c.rc.d9 (some (.slice (some ⟨s11.h.next,0,none⟩) (rowsV ps s7.h.next).length Ev.soft)),bagH c.rc.el (rowsV ps s7.h.next) s11.h,[]⟩ with
     |some x=>match Ev.leaveC P c.fn x with
      |some (v,h')=>match Nat.ble h'.next hi with
       |true=>some (v,⟨h'.t,hi,h'.log⟩)
       |false=>none
      |none=>none
     |none=>none
    |false=>none
   |none=>none
  |none=>none
 |none=>none
end
theorem reserve{ρ:Ev.Nms}{h:Ev.H}{w w':World}{o:Obj}(hr:Ev.HR ρ h w)(hu:ρ h.next=.unborn)(hw:w'.heap=w.heap.push o)(ho:Ev.numB o=false):Ev.Stp ρ h w (Ev.upd ρ h.next (.at_ w.heap.size 0)) ⟨h.t,h.next+1,h.log⟩ w'∧Ev.HR (Ev.upd ρ h.next (.at_ w.heap.size 0)) ⟨h.t,h.next+1,h.log⟩ w':=by
 have hle:Ev.Le ρ (Ev.upd ρ h.next (.at_ w.heap.size 0)):=Ev.le_new hu _
 have hkn:∀b o,h.get b=some o→b≠h.next:=fun b o hb e=>by
  subst e
  obtain⟨x,k,o',h1,_⟩:=hr.ob _ o hb
  rw[hu] at h1;cases h1
 have hkeep:∀(x:Nat) (o:Obj),w.heap[x]?=some o→w'.heap[x]?=some o:=fun x o hx=>by
  have:=(Array.getElem?_eq_some_iff.1 hx).1
  rw[hw,Array.getElem?_push,if_neg (by omega)];exact hx
 refine⟨⟨hle,Nat.le_succ _,fun b hb hx=>?_,by rw[hw];simp,[],rfl,fun x o hx _=>hkeep x o hx,fun b x k hb=>?_,fun _ h=>by simp at h,fun _ _=>rfl,fun b _ hb=>?_⟩,hr.tame.push hw ho,fun b o hb=>?_,fun b c x k l hb hc hx hy=>?_⟩
 .rw[Ev.upd_other]
  .exact hb
  .rintro rfl
   rcases hx with hx|hx
   .exact absurd hx (Nat.lt_irrefl _)
   .exact absurd hx (Nat.not_succ_le_self _)
 .by_cases e:b=h.next
  .subst e
   rw[Ev.upd_same] at hb
   cases hb
   exact .inr ⟨hu,.inl (Nat.le_refl _)⟩
  .rw[Ev.upd_other _ _ e] at hb;exact .inl hb
 .rw[Ev.upd_other]
  rintro rfl
  exact hb hu
 .obtain⟨x,k,o',h1,h2,h3⟩:=hr.ob b o hb
  exact⟨x,k,o',by rw[Ev.upd_other _ _ (hkn b o hb)];exact h1,hkeep _ _ h2,h3.mono hle⟩
 .obtain⟨o1,h1⟩:=Option.isSome_iff_exists.1 hb
  obtain⟨o2,h2⟩:=Option.isSome_iff_exists.1 hc
  rw[Ev.upd_other _ _ (hkn b o1 h1)] at hx
  rw[Ev.upd_other _ _ (hkn c o2 h2)] at hy
  exact hr.inj b c x k l hb hc hx hy
theorem stp_free{ρ ρ':Ev.Nms}{h h':Ev.H}{w w':World}(s:Ev.Stp ρ h w ρ' h' w'){b:Nat}(h1:h.get b=none)(h2:b<h.next):h'.get b=none:=by
 obtain⟨l,_,_,_,p1,p2,_⟩:=s.log
 by_cases hm:b∈l
 .rcases p1 b hm with h4|h4
  .rw[h1] at h4;cases h4
  .omega
 .rw[p2 b hm];exact h1
section
variable{P:Program}{L N:List FuncId}{Lk:WgLink}{c:Lst}{inv:Ev.Iv}{Z:Nat→Prop}{w00:World}{Post:Value→World→Prop}
theorem ivk_of{K:Frame→List Frame→World→Prop}(hK:Ev.Ups P L N K)(hI:∀f args h v h',inv (.func f) args h=some (v,h')→Ev.FuncDoes P f args h v h'):Ev.IvK P L N K noN inv:=⟨hK,hI,fun _ _ _ _ _ _ e=>by cases e⟩
theorem setT_ok{t:Ev.T Value}{n d:Nat}{v:Value}(h1:d<n)(h2:d<Ev.top):Ev.setT t n (some d) v=some (Ev.T.put Ev.T.deep t d (some v)):=by
 unfold Ev.setT
 have e1:Nat.blt d n=true:=by rw[Nat.blt_eq];exact h1
 have e2:Nat.blt d Ev.top=true:=by rw[Nat.blt_eq];exact h2
 simp only[e1,e2]
theorem ivk_run{K:Frame→List Frame→World→Prop}{invN:FuncId→List Value→Ev.H→Option (Value×Ev.H)}(hI:Ev.IvK P L N K invN inv)(hLN:∀f∈L,f∉N){n:Nat}{ops:Array Oper}{rest:List Nat}{b:Frame}{k:List Item}{cs:List Frame}(hbk:b.kind=.normal)(hbr:b.roundOf=none)(hcs:Ev.Stk cs):∀{l:List Oper} {i:Nat} {t t':Ev.T Value} {h h':Ev.H},(∀j,j<l.length→ops[i+j]?=l[j]?)→Ev.opsO P (Ev.invC N invN inv) (Ev.ckN P L N) n ops.toList l t h=some (t',h')→∀{ρ:Ev.Nms} {a:Act} {w:World},Ev.TR ρ n t a.tmps→Ev.HR ρ h w→Ev.Unb ρ h.next h'.next→(∀ρ' a' w',a'.defers=a.defers→Ev.Stp ρ h w ρ' h' w'→Ev.HR ρ' h' w'→Ev.TR ρ' n t' a'.tmps→K (b.atR a' (.inRegion ops rest::k)) cs w')→K (b.atR a (.inRegion ops (List.range' i l.length++rest)::k)) cs w
 |[],i,t,t',h,h',hl,e,ρ,a,w,ht,hr,hu,hk=>by
  cases e
  exact hk ρ a w rfl (.refl ρ h _ _ rfl) hr ht
 |o::l,i,t,t',h,h',hl,e,ρ,a,w,ht,hr,hu,hk=>by
  have ho:ops[i]?=some o:=by simpa using hl 0 (by simp)
  have hl':∀j,j<l.length→ops[i+1+j]?=l[j]?:=fun j hj=>by
   have:=hl (j+1) (by simp;omega)
   rw[show i+(j+1)=i+1+j by omega] at this
   simpa using this
  have hrange:List.range' i (o::l).length++rest=i::(List.range' (i+1) l.length++rest):=by simp[List.range'_succ]
  rw[hrange]
  simp only[Ev.opsO] at e
  split at e
  .rename_i hw
   have hwant:=Ev.wanted_ok ht hw
   split at e
   case h_2=>cases e
   rename_i hck
   split at e
   .rename_i v h1 e1
    split at e
    .rename_i t1 e2
     have n1:=Ev.one_next hI.next e1
     have n2:=Ev.ops_next hI.next e
     refine hI.one e1 hck hLN ho hwant ht hr (hu.sub (Nat.le_refl _) n2) hcs hbk hbr fun ρ1 v' w1 s2 s3 s4=>?_
     have ht1:Ev.TR ρ1 n t1 (a.put o.dst v').tmps:=(ht.mono s2.le).put e2 s4
     exact ivk_run hI hLN hbk hbr hcs hl' e ht1 s3 ((hu.sub n1 (Nat.le_refl _)).step s2 (Nat.le_refl _)) fun ρ2 a2 w2 d1 d2 d3 d4=>hk ρ2 a2 w2 (by rw[d1,Ev.put_defers]) (s2.trans d2) d3 d4
    .cases e
   .cases e
  .rename_i hw
   have hwant:=Ev.wanted_ok ht hw
   split at e
   case h_2=>cases e
   rename_i hsk
   split at e
   .rename_i t1 e2
    have ht1:Ev.TR ρ n t1 (a.put o.dst undef).tmps:=ht.put e2 Ev.undef_rel
    refine hI.ups.skip ho hsk hwant hcs fun tp=>?_
    exact ivk_run hI hLN hbk hbr hcs hl' e ht1 (hr.heap rfl) hu fun ρ2 a2 w2 d1 d2 d3 d4=>hk ρ2 a2 w2 (by rw[d1,Ev.put_defers]) (d2.heap rfl) d3 d4
   .cases e
  .cases e
theorem stp_bump{ρ ρ':Ev.Nms}{h h':Ev.H}{w w':World}(s:Ev.Stp ρ h w ρ' h' w'){hi:Nat}(hle:h'.next≤hi):Ev.Stp ρ h w ρ' ⟨h'.t,hi,h'.log⟩ w':=by
 obtain⟨l,l1,l2,l3,l4,l5,l6⟩:=s.log
 exact⟨s.le,Nat.le_trans s.next hle,fun b h1 h2=>s.born b h1 (h2.imp id fun h3=>Nat.le_trans hle h3),s.size,l,l1,l2,l3,fun b hb=>(l4 b hb).imp id fun h3=>⟨h3.1,Nat.lt_of_lt_of_le h3.2 hle⟩,l5,l6⟩
set_option maxHeartbeats 4000000 in
theorem Lst.funcK(hz:ZeroOK P)(hSk:SOK P (·∈L))(hLN:∀f∈L,f∉N)(H:WgLib P Lk)(hN:Ev.NextOK inv)(hI:∀f args h v h',inv (.func f) args h=some (v,h')→Ev.FuncDoes P f args h v h'){f:FuncId}(hc:c.OK P L N Lk f){hi:Nat}{args:List Value}{h h':Ev.H}{v:Value}(e:c.evalO P L N inv hi args h=some (v,h')):Ev.FuncK P L N (@KM _ _ (spOf P L N) P (·∈L) Z w00 Post) f args h v h':=by
 unfold Lst.evalO at e
 split at e
 case h_2=>cases e
 rename_i m nC nW s7 epre
 split at e
 case h_2=>cases e
 rename_i ps tE erounds
 split at e
 case h_2=>cases e
 rename_i s11 emid
 split at e
 case h_2=>cases e
 rename_i eat
 split at e
 case h_2=>cases e
 rename_i x17 e17
 split at e
 case h_2=>cases e
 rename_i v17 h17 eleave
 split at e
 case h_2=>cases e
 rename_i ehi
 have ehi:=Nat.le_of_ble_eq_true ehi
 obtain⟨rfl,rfl⟩:=Prod.mk.inj (Option.some.inj e)
 generalize hn:args.length+(c.fn.ntmps-args.length)=n at *
 unfold Lst.preO at epre
 rw[hn] at epre
 split at epre
 case h_2=>cases epre
 rename_i ta eta
 split at epre
 case h_2=>cases epre
 rename_i s2 ec0
 split at epre
 case h_2=>cases epre
 rename_i t3 e2m
 split at epre
 case h_2=>cases epre
 rename_i m' ecap
 split at epre
 case h_2=>cases epre
 rename_i t5 h5 em e2as
 split at epre
 case h_2=>cases epre
 rename_i s7' ec4
 obtain⟨rfl,rfl,rfl,rfl⟩:m'=m∧s2.h.next=nC∧h5.next=nW∧s7'=s7:=by
  have:=Option.some.inj epre
  simp only[Prod.mk.injEq] at this
  exact this
 rw[Nat.blt_eq] at em
 unfold Lst.midO at emid
 split at emid
 case h_2=>cases emid
 rename_i t9 h8 eload
 split at emid
 case h_2=>cases emid
 rename_i kch ekch
 split at emid
 case h_2=>cases emid
 rename_i s10 hkch ec12
 split at emid
 case h_2=>cases emid
 rename_i s11' ec13
 obtain rfl:=Option.some.inj emid
 obtain rfl:=Nat.eq_of_beq_eq_true hkch
 unfold Lst.atO at eat
 simp only[Bool.and_eq_true,Nat.blt_eq] at eat
 obtain⟨⟨⟨⟨⟨⟨⟨⟨⟨⟨⟨⟨⟨⟨⟨⟨⟨⟨a1,a2⟩,a3⟩,a4⟩,a5⟩,a6⟩,a7⟩,a8⟩,a9⟩,a10⟩,a11⟩,a12⟩,a13⟩,a14⟩,a15⟩,a16⟩,a17⟩,a18⟩,a19⟩:=eat
 have hps:ps.length=m':=Nat.eq_of_beq_eq_true a1
 have a2:=Nat.le_of_ble_eq_true a2
 have a10:=Nat.le_of_ble_eq_true a10
 have a18:=Nat.le_of_ble_eq_true a18
 have a19:=Nat.le_of_ble_eq_true a19
 have hKM:Ev.Ups P L N (@KM _ _ (spOf P L N) P (·∈L) Z w00 Post):=km_ups hz hSk
 have hIM:=ivk_of (inv:=inv) hKM hI
 obtain⟨n0,r0⟩:=Ev.code_K hIM hLN c.c0 _ _ ec0
 have n2:=Ev.ops_next hIM.next e2as
 obtain⟨n4,_⟩:=Ev.code_K hIM hLN c.c4 _ _ ec4
 obtain⟨n12,_⟩:=Ev.code_K hIM hLN c.c12 _ _ ec12
 obtain⟨n13,_⟩:=Ev.code_K hIM hLN c.c13 _ _ ec13
 obtain⟨n17,r17⟩:=Ev.code_K hIM hLN c.c17 _ _ e17
 have n8:s7'.h.next+ps.length≤h8.next:=Ev.ops_next hIM.next eload
 simp only at n0 n2 n4 n12 n13
 have n17:s11'.h.next+1≤x17.2.h.next:=n17
 have hne:¬ ∃id,x17.1=.exit id:=fun⟨id,hid⟩=>by
  unfold Ev.leaveC at eleave
  rw[hid] at eleave
  cases eleave
 have hres:Ev.resultV P x17.2.t x17.2.h c.fn.results.toList=some v17∧h17=x17.2.h:=by
  unfold Ev.leaveC at eleave
  split at eleave
  .cases eleave
  .split at eleave
   .rename_i u hu';cases eleave;exact⟨hu',rfl⟩
   .cases eleave
 obtain⟨hres,rfl⟩:=hres
 have hOKc:=hc
 refine⟨by show h.next≤hi;omega,c.fn,c.body,hc.ff,hc.fb,hc.fname,hc.fcl,fun ρ args' w cf cs hcs hcm ha hr hu hk=>?_⟩
 have hu:Ev.Unb ρ h.next hi:=hu
 let b:Frame:={ (default:Frame) with fn:=f,kind:=.normal}
 have hbk:b.kind=.normal:=rfl
 have hbr:b.roundOf=none:=rfl
 have hl:=ha.length
 have henter:Frame.enter P f ⟨args'⟩ .normal=b.atR {tmps:=(⟨args'⟩:Array Value)++Array.replicate (c.fn.ntmps-args.length) undef,defers:=[]} [.code c.body]:=by
  simp[Frame.enter,Frame.atR,hc.ff,hc.fb,b,hl]
  rfl
 rw[henter]
 have hcs':Ev.Stk (cf::cs):=hcs.cons cf
 have leave:∀ρ' a' w' k0,a'.defers=[]→Ev.Stp ρ h w ρ' x17.2.h w'→Ev.HR ρ' x17.2.h w'→Ev.TR ρ' n x17.2.t a'.tmps→@KM _ _ (spOf P L N) P (·∈L) Z w00 Post {b.atR a' k0 with mode:=.returning} (cf::cs) w':=fun ρ' a' w' k0 d1 d2 d3 d4=>by
  have hlv:∀tp,∃v',({b.atR a' k0 with mode:=.returning}:Frame).leaving P (wt w' tp) (.returned v')∧Ev.VR ρ' v17 v':=fun tp=>by
   obtain⟨v',r1,r2⟩:=Ev.result_ok (fn:=c.fn) d4 (d3.heap (w':=wt w' tp) rfl) hres
   exact⟨v',⟨rfl,d1,rfl,c.fn,hc.ff,r1⟩,r2⟩
  obtain⟨v0,hl0,_⟩:=hlv w'.tape
  refine hKM.own (@Fit.leaving _ P (spOf P L N) _ _ _ _ hl0) fun tp=>?_
  obtain⟨v',q1,q2⟩:=hlv tp
  obtain⟨es,hst⟩:=Ev.go_leave (c:=cf) (cs:=cs) q1
  exact⟨_,_,wt w' tp,es,hst,by rw[Ev.finish_mode];exact hcm,hcs,fun hc=>Ren.clean_same hc rfl,.of rfl,hk ρ' v' (wt w' tp) (stp_bump (d2.tape tp) ehi) ⟨(d3.heap (w':=wt w' tp) rfl).tame,(d3.heap (w':=wt w' tp) rfl).ob,d3.inj⟩ q2⟩
 have ht0:Ev.TR ρ n ta ((⟨args'⟩:Array Value)++Array.replicate (c.fn.ntmps-args.length) undef):=by rw[←hn];exact Ev.args_tr eta ha
 generalize hA0:({tmps:=(⟨args'⟩:Array Value)++Array.replicate (c.fn.ntmps-args.length) undef,defers:=[]}:Act)=a0
 have ht0:Ev.TR ρ n ta a0.tmps:=by rw[←hA0];exact ht0
 have hd0:a0.defers=[]:=by rw[←hA0]
 unfold Lst.body
 refine ups_seq hKM hcs' fun w1 g1=>?_
 refine r0 ρ b a0 _ (cf::cs) w1 hbk hbr hcs' ht0 (hr.heap g1) (hu.sub (Nat.le_refl _) (by show s2.h.next≤hi;omega)) fun ρ2 b2 w4 d1 st2 hr2 ht2=>?_
 have st2:Ev.Stp ρ h w ρ2 s2.h w4:=st2.heap g1
 have hu2:Ev.Unb ρ2 s2.h.next hi:=(hu.sub (by omega) (Nat.le_refl _)).step st2 (Nat.le_refl _)
 refine ups_seq hKM hcs' fun w5 g5=>?_
 refine ups_region hKM hcs' fun w6 g6=>?_
 have hl2:c.ops2.size=c.l2.length+3:=by rw[←Array.length_toList,hc.l2eq];simp
 have hget2:∀j,c.ops2[j]?=(c.l2++[c.o2c,c.o2a,c.o2s])[j]?:=fun j=>by rw[←hc.l2eq,Array.getElem?_toList]
 have hrng:List.range c.ops2.size=List.range' 0 c.l2.length++[c.l2.length,c.l2.length+1,c.l2.length+2]:=by
  rw[hl2,List.range_eq_range',show c.l2.length+3=c.l2.length+1+1+1 by omega,List.range'_concat,List.range'_concat,List.range'_concat];simp
 rw[hrng]
 refine hKM.pures2 hcs' (l:=c.l2) (i:=0) (rest:=[c.l2.length,c.l2.length+1,c.l2.length+2]) (fun j hj=>by rw[Nat.zero_add,hget2,List.getElem?_append_left hj]) e2m ht2 fun b3 w7 d3 g7 ht3 _=>?_
 have e7:w7.heap=w4.heap:=by rw[g7,g6,g5]
 have hw2c:Region.wanted c.o2c (yielded c.ops2 b3.tmps)=true:=by unfold Region.wanted;rw[hc.g2c]
 have hcapv:b3.eval c.xcap=.int .i64 m':=(Ev.env_of ht3 _ _ ecap).flat rfl
 refine @KMF.mkChan (spOf P L N) P (·∈L) Z w00 Post b b3 _ (cf::cs) w7 c.ops2 c.l2.length [c.l2.length+1,c.l2.length+2] c.o2c hbk hbr (by rw[hget2];simp) hw2c c.rc.tch c.rc.elch c.xcap c.rc.dch c.tel m' hc.op2c hc.rc.tch hc.tel (Ev.opnd_mono hc.xcapok) hcapv em hc.telb ?_
 rw[hc.d2c]
 generalize hgC:w7.heap.size=gC
 generalize hw8:({w7 with heap:=w7.heap.push (.chan m' #[] false 0 0 false)}:World)=w8
 have hw8':w8.heap=w7.heap.push (.chan m' #[] false 0 0 false):=by rw[←hw8]
 have hup2:ρ2 s2.h.next=.unborn:=hu2 _ (Nat.le_refl _) (by omega)
 obtain⟨st3a,hr3⟩:=reserve (w':=w8) (hr2.heap e7) hup2 hw8' rfl
 rw[hgC] at st3a hr3
 generalize hρ3:Ev.upd ρ2 s2.h.next (.at_ gC 0)=ρ3 at st3a hr3
 have st3:Ev.Stp ρ h w ρ3 ⟨s2.h.t,s2.h.next+1,s2.h.log⟩ w8:=st2.trans (st3a.heap e7)
 have hu3:Ev.Unb ρ3 (s2.h.next+1) hi:=(hu2.sub (Nat.le_succ _) (Nat.le_refl _)).step st3a (Nat.le_refl _)
 have hC3:ρ3 s2.h.next=.at_ gC 0:=by rw[←hρ3];exact Ev.upd_same _ _ _
 have hget3:(⟨s2.h.t,s2.h.next+1,s2.h.log⟩:Ev.H).get s2.h.next=none:=by
  cases hq:(⟨s2.h.t,s2.h.next+1,s2.h.log⟩:Ev.H).get s2.h.next with
  |none=>rfl
  |some o=>
   obtain⟨x,k,o',h1,_⟩:=hr2.ob s2.h.next o hq
   rw[hup2] at h1;cases h1
 have hsz8:w8.heap.size=gC+1:=by rw[hw8',←hgC];simp
 generalize hb4:b3.put (some c.d17) (.chan (some gC))=b4
 have ht4:Ev.TR ρ3 n (Ev.T.put Ev.T.deep t3 c.d17 (some (.chan (some s2.h.next)))) b4.tmps:=by
  have h1:Ev.TR ρ3 n t3 b3.tmps:=ht3.mono st3a.le
  have h2:Ev.setT t3 n (some c.d17) (.chan (some s2.h.next))=some (Ev.T.put Ev.T.deep t3 c.d17 (some (.chan (some s2.h.next)))):=by
   exact setT_ok a14 hc.l17
  rw[←hb4]
  exact h1.put h2 (.chan (by unfold Ev.BR;rw[hC3]))
 have hK2:Ev.Ups P L N (@KMF _ _ (spOf P L N) P (·∈L) Z w00 Post (gC+1) (ChanF gC m')):=kmf_ups hz hSk (ChanF.still (Nat.lt_succ_self _))
 have hI2:=ivk_of (inv:=inv) hK2 hI
 have hrng2:([c.l2.length+1,c.l2.length+2]:List Nat)=List.range' (c.l2.length+1) [c.o2a,c.o2s].length++[]:=rfl
 rw[hrng2]
 refine ivk_run hI2 hLN hbk hbr hcs' (l:=[c.o2a,c.o2s]) (i:=c.l2.length+1) (rest:=[]) (fun j hj=>by rw[hget2,List.getElem?_append_right (by omega)];rw[show c.l2.length+1+j-c.l2.length=j+1 by omega];simp) e2as ht4 hr3 (hu3.sub (Nat.le_refl _) (by show h5.next≤hi;omega)) fun ρ4 b5 w9 d5 st4a hr4 ht5=>?_
 have st4:Ev.Stp ρ h w ρ4 h5 w9:=st3.trans st4a
 have hu4:Ev.Unb ρ4 h5.next hi:=(hu3.sub n2 (Nat.le_refl _)).step st4a (Nat.le_refl _)
 have hC4:ρ4 s2.h.next=.at_ gC 0:=by rw[stp_keeps st4a hget3 (Nat.lt_succ_self _) (by rw[hC3];simp)];exact hC3
 have hget4:h5.get s2.h.next=none:=stp_free st4a hget3 (Nat.lt_succ_self _)
 have hsz9:gC+1≤w9.heap.size:=by rw[←hsz8];exact st4a.size
 refine ups_end hK2 hcs' fun w9' g9'=>?_
 refine ups_seq hK2 hcs' fun w10 g10=>?_
 refine ups_region hK2 hcs' fun w11 g11=>?_
 have e11:w11.heap=w9.heap:=by rw[g11,g10,g9']
 have hrng3:List.range (#[c.o3]:Array Oper).size=[0]:=rfl
 rw[hrng3]
 have hw3:Region.wanted c.o3 (yielded #[c.o3] b5.tmps)=true:=by unfold Region.wanted;rw[hc.g3]
 refine @KMF.mkGroup (spOf P L N) P (·∈L) Z w00 Post b b5 _ (cf::cs) w11 #[c.o3] 0 [] c.o3 hbk hbr rfl hw3 Lk.tWg c.zg hc.op3 hc.zg hc.zgc gC m' (gC+1) (by rw[e11];omega) (by rw[e11];omega) ?_
 rw[hc.d3]
 generalize hgW:w11.heap.size=gW
 generalize hw12:({w11 with heap:=w11.heap.push (.cells #[] Lk.tWg (0,0))}:World)=w12
 have hw12':w12.heap=w11.heap.push (.cells #[] Lk.tWg (0,0)):=by rw[←hw12]
 have hup4:ρ4 h5.next=.unborn:=hu4 _ (Nat.le_refl _) (by omega)
 obtain⟨st5a,hr5⟩:=reserve (w':=w12) (hr4.heap e11) hup4 hw12' rfl
 rw[hgW] at st5a hr5
 generalize hρ5:Ev.upd ρ4 h5.next (.at_ gW 0)=ρ5 at st5a hr5
 have st5:Ev.Stp ρ h w ρ5 ⟨h5.t,h5.next+1,h5.log⟩ w12:=st4.trans (st5a.heap e11)
 have hu5:Ev.Unb ρ5 (h5.next+1) hi:=(hu4.sub (Nat.le_succ _) (Nat.le_refl _)).step st5a (Nat.le_refl _)
 have hW5:ρ5 h5.next=.at_ gW 0:=by rw[←hρ5];exact Ev.upd_same _ _ _
 have hCW:s2.h.next<h5.next:=n2
 have hC5:ρ5 s2.h.next=.at_ gC 0:=by rw[←hρ5,Ev.upd_other _ _ (by omega)];exact hC4
 have hgetW5:(⟨h5.t,h5.next+1,h5.log⟩:Ev.H).get h5.next=none:=by
  cases hq:(⟨h5.t,h5.next+1,h5.log⟩:Ev.H).get h5.next with
  |none=>rfl
  |some o=>
   obtain⟨x,k,o',h1,_⟩:=hr4.ob h5.next o hq
   rw[hup4] at h1;cases h1
 have hgWC:gC<gW:=by rw[←hgW,e11];omega
 have hsz12:w12.heap.size=gW+1:=by rw[hw12',←hgW];simp
 generalize hb6:b5.put (some c.d7) (.pointer (some ⟨gW,0,none⟩))=b6
 have ht6:Ev.TR ρ5 n (Ev.T.put Ev.T.deep t5 c.d7 (some (.pointer (some ⟨h5.next,0,none⟩)))) b6.tmps:=by
  have h1:Ev.TR ρ5 n t5 b5.tmps:=ht5.mono st5a.le
  have h2:Ev.setT t5 n (some c.d7) (.pointer (some ⟨h5.next,0,none⟩))=some (Ev.T.put Ev.T.deep t5 c.d7 (some (.pointer (some ⟨h5.next,0,none⟩)))):=by
   exact setT_ok a15 hc.l7
  rw[←hb6]
  exact h1.put h2 (.ptr ⟨by show Ev.BR _ h5.next _;unfold Ev.BR;rw[hW5],rfl,rfl,rfl⟩)
 have hK4:Ev.Ups P L N (@KMF _ _ (spOf P L N) P (·∈L) Z w00 Post (gW+1) (CrewF Lk.tWg gW gC m')):=kmf_ups hz hSk (CrewF.still (Nat.lt_succ_self _) (by omega))
 have hI4:=ivk_of (inv:=inv) hK4 hI
 refine ups_end hK4 hcs' fun w13 g13=>?_
 refine ups_seq hK4 hcs' fun w14 g14=>?_
 refine ups_seq hK4 hcs' fun w15 g15=>?_
 have e15:w15.heap=w12.heap:=by rw[g15,g14,g13]
 obtain⟨_,r4⟩:=Ev.code_K hI4 hLN c.c4 _ _ ec4
 refine r4 ρ5 b b6 _ (cf::cs) w15 hbk hbr hcs' ht6 (hr5.heap e15) (hu5.sub (Nat.le_refl _) (by show s7'.h.next≤hi;omega)) fun ρ6 b7 w16 d7 st6a hr6 ht7=>?_
 have st6a:Ev.Stp ρ5 ⟨h5.t,h5.next+1,h5.log⟩ w12 ρ6 s7'.h w16:=st6a.heap e15
 have st6:Ev.Stp ρ h w ρ6 s7'.h w16:=st5.trans st6a
 have hu6:Ev.Unb ρ6 s7'.h.next hi:=(hu5.sub n4 (Nat.le_refl _)).step st6a (Nat.le_refl _)
 have hgetC5:(⟨h5.t,h5.next+1,h5.log⟩:Ev.H).get s2.h.next=none:=hget4
 have hW6:ρ6 h5.next=.at_ gW 0:=by rw[stp_keeps st6a hgetW5 (Nat.lt_succ_self _) (by rw[hW5];simp)];exact hW5
 have hC6:ρ6 s2.h.next=.at_ gC 0:=by rw[stp_keeps st6a hgetC5 (Nat.lt_succ_of_lt hCW) (by rw[hC5];simp)];exact hC5
 have hgetC6:s7'.h.get s2.h.next=none:=stp_free st6a hgetC5 (Nat.lt_succ_of_lt hCW)
 have hsz16:gW+1≤w16.heap.size:=by rw[←hsz12];exact st6a.size
 refine ups_block hK4 hcs' fun w17 g17=>?_
 refine ups_loop hK4 hcs' fun w18 g18=>?_
 have e18:w18.heap=w16.heap:=by rw[g18,g17]
 have n4':h5.next+1≤s7'.h.next:=n4
 refine Crw.crew hz hSk H hN hI hc.cw (h:=s7'.h) (hi:=hi) a12 a13 (hr6.heap e18) hW6 (by rw[e18];omega) hC6 (by rw[e18];omega) hgetC6 (by omega) (by omega) hu6 (by omega) erounds hps (Nat.le_refl _) (by omega) a2 a18 (flatsP_mem a4) hbk hbr hcs' ht7 ⟨Nat.lt_succ_self _,by omega⟩ fun b8 w19 ρ6' pv bs d8 ht8 st8a hr8 hpv hvs hbs=>?_
 generalize hnn:w19.heap.size=nn at *
 have hsz18:gW+1≤w18.heap.size:=by rw[e18];exact hsz16
 have hgCn:gC<nn:=by have:=st8a.size;omega
 have hK5:Ev.Ups P L N (@KMF _ _ (spOf P L N) P (·∈L) Z w00 Post nn (SentF gC m' bs)):=kmf_ups hz hSk (SentF.still hgCn hbs)
 rw[Frame.finish_atR]
 simp only[List.getElem?_toArray,List.getElem?_cons_zero,Option.bind_some,hc.d10]
 generalize hb9:b8.put (some c.d25) (.tuple #[])=b9
 have ht9:Ev.TR ρ6' n (Ev.strike tE c.d25) b9.tmps:=by rw[←hb9];exact(ht8.mono st8a.le).forget hc.l25 _
 have st8:Ev.Stp ρ h w ρ6' (rowsH c.cw.iT ps s7'.h) w19:=st6.trans (st8a.heap e18)
 have hun6:(rowsH c.cw.iT ps s7'.h).next=s7'.h.next+ps.length:=rfl
 have hu6':Ev.Unb ρ6' (rowsH c.cw.iT ps s7'.h).next hi:=(hu6.sub (by rw[hun6];omega) (Nat.le_refl _)).step st8a (Nat.le_refl _)
 have hC6':ρ6' s2.h.next=.at_ gC 0:=by rw[stp_keeps st8a hgetC6 (by omega) (by rw[hC6];simp)];exact hC6
 have hgetC6':(rowsH c.cw.iT ps s7'.h).get s2.h.next=none:=stp_free st8a hgetC6 (by omega)
 refine ups_end hK5 hcs' fun w20 g20=>?_
 refine ups_seq hK5 hcs' fun w21 g21=>?_
 refine ups_region hK5 hcs' fun w22 g22=>?_
 have e22:w22.heap=w19.heap:=by rw[g22,g21,g20]
 have hrng11:List.range (#[c.o11l,c.o11c]:Array Oper).size=[0,1]:=rfl
 rw[hrng11]
 have hI5:=ivk_of (inv:=inv) hK5 hI
 have hrng11':([0,1]:List Nat)=List.range' 0 [c.o11l].length++[1]:=rfl
 rw[hrng11']
 refine ivk_run hI5 hLN hbk hbr hcs' (l:=[c.o11l]) (i:=0) (rest:=[1]) (fun j hj=>by simp at hj;subst hj;rfl) eload ht9 (hr8.heap e22) (hu6'.sub (Nat.le_refl _) (by show h8.next≤hi;omega)) fun ρ7 b10 w23 d10 st9a hr9 ht10=>?_
 have st9a:Ev.Stp ρ6' (rowsH c.cw.iT ps s7'.h) w19 ρ7 h8 w23:=st9a.heap e22
 have st9:Ev.Stp ρ h w ρ7 h8 w23:=st8.trans st9a
 have hu7:Ev.Unb ρ7 h8.next hi:=(hu6'.sub n8 (Nat.le_refl _)).step st9a (Nat.le_refl _)
 have hC7:ρ7 s2.h.next=.at_ gC 0:=by rw[stp_keeps st9a hgetC6' (by rw[hun6];omega) (by rw[hC6'];simp)];exact hC6'
 have hgetC7:h8.get s2.h.next=none:=stp_free st9a hgetC6' (by rw[hun6];omega)
 have hw11c:Region.wanted c.o11c (yielded #[c.o11l,c.o11c] b10.tmps)=true:=by unfold Region.wanted;rw[hc.g11c]
 have hvch:b10.eval (.tmp c.d26)=.chan (some gC):=by
  have h3:=Ev.env_of ht10 _ _ ekch
  generalize b10.eval (.tmp c.d26)=y at h3
  cases h3 with
  |same h=>cases h
  |chan h4=>rw[h4.at_ hC7]
 refine @KMF.close (spOf P L N) P (·∈L) Z w00 Post b b10 _ (cf::cs) w23 #[c.o11l,c.o11c] 1 [] c.o11c hbk hbr rfl hw11c (.tmp c.d26) c.ats11 hc.op11c trivial gC m' nn bs hvch ?_
 rw[hc.d11c]
 have hput:b10.put none (.tuple #[])=b10:=rfl
 rw[hput]
 have hK6:Ev.Ups P L N (@KMF _ _ (spOf P L N) P (·∈L) Z w00 Post nn (ShutF gC m' bs)):=kmf_ups hz hSk (ShutF.still hgCn hbs)
 have hI6:=ivk_of (inv:=inv) hK6 hI
 refine ups_end hK6 hcs' fun w24 g24=>?_
 refine ups_seq hK6 hcs' fun w25 g25=>?_
 have e25:w25.heap=w23.heap:=by rw[g25,g24]
 obtain⟨_,r12⟩:=Ev.code_K hI6 hLN c.c12 _ _ ec12
 refine r12 ρ7 b b10 _ (cf::cs) w25 hbk hbr hcs' ht10 (hr9.heap e25) (hu7.sub (Nat.le_refl _) (by show s10.h.next≤hi;omega)) fun ρ8 b11 w26 d11 st10a hr10 ht11=>?_
 have st10a:Ev.Stp ρ7 h8 w23 ρ8 s10.h w26:=st10a.heap e25
 have st10:Ev.Stp ρ h w ρ8 s10.h w26:=st9.trans st10a
 have hu8:Ev.Unb ρ8 s10.h.next hi:=(hu7.sub n12 (Nat.le_refl _)).step st10a (Nat.le_refl _)
 have hC8:ρ8 s2.h.next=.at_ gC 0:=by rw[stp_keeps st10a hgetC7 (by omega) (by rw[hC7];simp)];exact hC7
 have hgetC8:s10.h.get s2.h.next=none:=stp_free st10a hgetC7 (by omega)
 refine ups_seq hK6 hcs' fun w27 g27=>?_
 refine ups_seq hK6 hcs' fun w28 g28=>?_
 have e28:w28.heap=w26.heap:=by rw[g28,g27]
 obtain⟨_,r13⟩:=Ev.code_K hI6 hLN c.c13 _ _ ec13
 refine r13 ρ8 b b11 _ (cf::cs) w28 hbk hbr hcs' ht11 (hr10.heap e28) (hu8.sub (Nat.le_refl _) (by show s11'.h.next≤hi;omega)) fun ρ9 b12 w29 d12 st11a hr11 ht12=>?_
 have st11a:Ev.Stp ρ8 s10.h w26 ρ9 s11'.h w29:=st11a.heap e28
 have st11:Ev.Stp ρ h w ρ9 s11'.h w29:=st10.trans st11a
 have hu9:Ev.Unb ρ9 s11'.h.next hi:=(hu8.sub n13 (Nat.le_refl _)).step st11a (Nat.le_refl _)
 have hC9:ρ9 s2.h.next=.at_ gC 0:=by rw[stp_keeps st11a hgetC8 (by omega) (by rw[hC8];simp)];exact hC8
 refine ups_block hK6 hcs' fun w30 g30=>?_
 refine ups_loop hK6 hcs' fun w31 g31=>?_
 have e31:w31.heap=w29.heap:=by rw[g31,g30]
 have hr12:Ev.HR ρ9 s11'.h w31:=hr11.heap e31
 have st12:Ev.Stp ρ h w ρ9 s11'.h w31:=st11.trans (.refl _ _ _ _ e31)
 have h9v:b12.tmps[c.rc.d9]?=some (.slice none 0 0):=by
  split at a6
  .rename_i hg9
   obtain⟨v9,h1,h2⟩:=ht12.get _ _ hg9
   rw[h2.flat rfl] at h1
   exact h1
  .cases a6
 have htL:Ev.TR ρ9 n (Ev.T.put Ev.T.deep .nil c.d27 (some (.chan (some s2.h.next)))) b12.tmps:=ht12.sub a5
 have hone:∀u∈rowsV ps s7'.h.next,c.rc.roundO P L n (Ev.T.put Ev.T.deep .nil c.d27 (some (.chan (some s2.h.next)))) u=true∧∃nm len cap,u=.slice (some ⟨nm,0,none⟩) len cap∧(s11'.h.get nm).isSome=true:=fun u hu=>by
  have:=List.all_eq_true.1 a9 u hu
  unfold Lst.oneO at this
  simp only[Bool.and_eq_true] at this
  obtain⟨o1,o2⟩:=this
  refine⟨o1,?_⟩
  split at o2
  .exact⟨_,_,_,rfl,o2⟩
  .cases o2
 have hvs9:Ev.VRs ρ9 pv (bs.map sliceV):=hvs.mono ((st9a.le.trans st10a.le).trans st11a.le)
 have hnamed:=laid_named hr12 hvs9 fun u hu=>(hone u (hpv.mem_iff.1 hu)).2
 have hbl:bs.length=(rowsV ps s7'.h.next).length:=by have h1:=hvs.length;have h2:=hpv.length_eq;simp at h1;omega
 have hrl:∀(ps:List (Option (List Value))) (k:Nat),(rowsV ps k).length≤ps.length:=by
  intro ps
  induction ps with
  |nil=>intro k;exact Nat.le_refl _
  |cons p ps ih=>
   intro k
   have:=ih (k+1)
   cases p<;>simp only[rowsV,List.length_cons]<;>omega
 have hrl:=hrl ps s7'.h.next
 have hchx:Ev.evalO (Ev.T.put Ev.T.deep .nil c.d27 (some (.chan (some s2.h.next)))) c.rc.chx=some (.chan (some s2.h.next)):=by
  rw[hc.chx]
  show(Ev.T.put (α:=Value) Ev.T.deep .nil c.d27 (some (.chan (some s2.h.next)))).get c.d27=some (Value.chan (some s2.h.next))
  rw[Ev.T.get_put _ _ _ _ _ (Ev.top_deep hc.l27),if_pos rfl]
 refine Rcv.rounds (v0:=w31) hz hSk hc.rc hC9 hgCn a7 hchx a8 hbr hcs' bs (fun x hx=>⟨hbs x hx,?_⟩) [] (.slice none 0 0) b12 w31 (by simp;omega) ⟨.inl ⟨rfl,rfl⟩,fun _ _=>rfl,Nat.le_refl _,hr12.tame⟩ htL h9v fun b13 w32 sv d13 hG ht13 h913=>?_
 .obtain⟨u,q1,q2,q3⟩:=hnamed x hx
  exact⟨u,q2,q3,(hone u (hpv.mem_iff.1 q1)).1⟩
 have hvi:rowsV ps s7'.h.next≠[]:=fun e=>by rw[e] at a3;cases a3
 have hG:Got c.rc.el w31 w32 (bs.map sliceV) sv:=hG
 obtain⟨ρ10,stB,hrB,vB⟩:=Got.bag hr12 hG hpv hvs9 hvi (hu9 _ (Nat.le_refl _) (by omega)) a11
 have ht14:Ev.TR ρ10 n (Ev.T.put Ev.T.deep (Ev.T.put Ev.T.deep .nil c.d27 (some (.chan (some s2.h.next)))) c.rc.d9 (some (.slice (some ⟨s11'.h.next,0,none⟩) (rowsV ps s7'.h.next).length Ev.soft))) b13.tmps:=(ht13.mono stB.le).know hc.l9 h913 vB
 have st14:Ev.Stp ρ h w ρ10 (bagH c.rc.el (rowsV ps s7'.h.next) s11'.h) w32:=st12.trans stB
 have hu10:Ev.Unb ρ10 (bagH c.rc.el (rowsV ps s7'.h.next) s11'.h).next x17.2.h.next:=(hu9.sub (by show s11'.h.next≤s11'.h.next+1;omega) ehi).step stB (Nat.le_refl _)
 refine @KM.any _ _ (spOf P L N) P (·∈L) Z w00 Post _ _ _ _ _ ?_
 have hdef:b13.defers=[]:=by
  rw[d13,d12,d11,d10,←hb9,Ev.put_defers,d8,d7,←hb6,Ev.put_defers,d5,←hb4,Ev.put_defers,d3,d1,hd0]
 refine r17 ρ10 b b13 [] (cf::cs) w32 hbk hbr hcs' ht14 hrB hu10 fun ρ' a' w' d1 d2 d3 d4=>?_
 have hda:a'.defers=[]:=d1.trans hdef
 have d2:Ev.Stp ρ h w ρ' x17.2.h w':=st14.trans d2
 obtain⟨ex,sx⟩:=x17
 cases ex with
 |exit id=>exact absurd ⟨id,rfl⟩ hne
 |normal=>
  show @KM _ _ (spOf P L N) P (·∈L) Z w00 Post (b.atR a' []) (cf::cs) w'
  refine hKM.own (@fit_nil _ P (spOf P L N) _ _ rfl rfl) fun tp=>?_
  exact⟨{b.atR a' [] with mode:=.returning},cf::cs,wt w' tp,#[],by unfold Conc.G;simp[stepG,stepG.exec,Frame.atR,b];rfl,trivial,hcs',fun hc=>Ren.clean_same hc rfl,.of rfl,leave ρ' a' (wt w' tp) [] hda (d2.tape tp) (d3.heap rfl) d4⟩
 |ret=>
  intro k0
  refine hKM.own (Ev.fit_at_item rfl) fun tp=>?_
  exact⟨{b.atR a' (.code .ret::k0) with mode:=.returning},cf::cs,wt w' tp,#[],by unfold Conc.G;simp[stepG,stepG.exec,Frame.atR,b];rfl,trivial,hcs',fun hc=>Ren.clean_same hc rfl,.of rfl,leave ρ' a' (wt w' tp) _ hda (d2.tape tp) (d3.heap rfl) d4⟩
end
end Go.Crew
namespace Go.Inst
open Go.Conc.Lib
def seqL:Code→Code
 |.seq a _=>a
 |c=>c
def seqR:Code→Code
 |.seq _ b=>b
 |c=>c
def blkId:Code→Nat
 |.block i _=>i
 |_=>0
def blkB:Code→Code
 |.block _ c=>c
 |c=>c
def loopB:Code→Code
 |.loop c=>c
 |c=>c
def regI:Code→Nat
 |.region i _ _=>i
 |_=>0
def regO:Code→Array Oper
 |.region _ ops _=>ops
 |_=>#[]
def condC:Code→Operand
 |.cond c _ _=>c
 |_=>default
def condA:Code→Code
 |.cond _ a _=>a
 |c=>c
def opA(c:Code)(i:Nat):Oper:=(regO c)[i]?.getD default
def dstN(o:Oper):Nat:=o.dst.getD 0
def tmpN:Operand→Nat
 |.tmp d=>d
 |_=>0
def callA:Op→Array Operand
 |.call c=>c.args
 |.go c=>c.args
 |.defer c=>c.args
 |_=>#[]
def callT:Op→Array TypeId
 |.call c=>c.argTypes
 |.go c=>c.argTypes
 |.defer c=>c.argTypes
 |_=>#[]
def arg(o:Op)(i:Nat):Operand:=(callA o)[i]?.getD default
def under(P:Program)(t:TypeId):TypeDesc:=(P.underlying t).getD default
def bodyOf(P:Program)(f:FuncId):Code:=match P.funcs[f]? with
 |some fn=>match fn.body with
  |some c=>c
  |none=>.skip
 |none=>.skip
def fnOf(P:Program)(f:FuncId):Func:=match P.funcs[f]? with
 |some fn=>fn
 |none=>default
def loadT:Op→TypeId
 |.load t _=>t
 |_=>0
def loadX:Op→Operand
 |.load _ x=>x
 |.indexAddr _ x _=>x
 |.makeChan _ x=>x
 |.recv _ x _=>x
 |.send x _=>x
 |.store _ _ x=>x
 |_=>default
def sendY:Op→Operand
 |.send _ y=>y
 |_=>default
def tyOf:Op→TypeId
 |.load t _=>t
 |.alloc t=>t
 |.makeChan t _=>t
 |.recv t _ _=>t
 |.buildSlice t _ _=>t
 |.store t _ _=>t
 |_=>0
def bstOf(P:Program)(f:FuncId):Ev.Bst:=
 let c:=bodyOf P f
 let s:=seqL (seqR c)
 let blk:=seqR s
 let lb:=loopB (blkB blk)
 let l2:=seqR (seqR lb)
 let inn:=blkB (seqL l2)
 let cnd:=seqR (seqR inn)
 {fn:=fnOf P f,c0:=seqL c,c1:=seqL s,c7:=seqR (seqR c),bid:=blkId blk,bid1:=blkId (seqL l2),i2:=regI (seqL lb),i3:=regI (seqL inn),i4:=regI (seqL (seqR inn)),i5:=regI (condA cnd),i6:=regI (seqR l2),
   ops2:=regO (seqL lb),c12:=condC (seqL (seqR lb)),o13:=opA (seqL inn) 0,o14:=opA (seqL inn) 1,o8:=opA (seqL inn) 2,ops4:=regO (seqL (seqR inn)),c19:=condC cnd,ops5:=regO (condA cnd),ops6:=regO (seqR l2),
   d1:=dstN (opA (condA cnd) 1),d8:=dstN (opA (seqL inn) 2),d9:=tmpN (loadX (opA (seqL inn) 0).op),d11:=dstN (opA (seqR l2) 1),d13:=dstN (opA (seqL inn) 0),d14:=dstN (opA (seqL inn) 1),tE:=loadT (opA (seqL inn) 1).op,dE:=under P (loadT (opA (seqL inn) 1).op)}
def goF:Op→FuncId
 |.makeFunc (.func f) _ _=>f
 |_=>0
def goCaps:Op→Array Operand
 |.makeFunc _ _ c=>c
 |_=>#[]
def chE:TypeDesc→TypeId
 |.chan _ e=>e
 |.slice e=>e
 |_=>0
def chD:TypeDesc→ChanDir
 |.chan d _=>d
 |_=>default
def infoOf(P:Program)(t:TypeId):TypeInfo:=(P.info? t).getD default
def zOf(P:Program)(t:TypeId):Value:=(Ev.zeroOf P t).getD default
def crwOf(P:Program)(f:FuncId):Crew.Crw:=
 let r4:=seqR (seqR (seqR (bodyOf P f)))
 let blk:=seqR (seqL r4)
 let lb:=loopB (blkB blk)
 let l2:=seqR (seqR lb)
 let inn:=blkB (seqL l2)
 let R6:=seqL inn
 let R7:=seqL (seqR inn)
 let R8:=seqR (seqR inn)
 let n6:=(regO R6).size
 let wc:=goF (opA R8 0).op
 let w:=bodyOf P wc
 let W1:=seqL (seqR w)
 let W2:=seqL (seqR (seqR w))
 let cn:=seqR (seqR (seqR w))
 let W3:=condA cn
 let so:=(regO W3).back?.getD default
 {wc:=wc,fn:=fnOf P wc,j0:=regI (seqL w),j1:=regI W1,j2:=regI W2,j3:=regI W3,o0:=opA (seqL w) 0,so:=so,ops1:=regO W1,ops2:=regO W2,ops3:=regO W3,l3:=(regO W3).toList.dropLast,iT:=chE (under P (chE (under P (tyOf (opA (seqL (seqR (bodyOf P f))) 2).op)))),
   cnd:=condC cn,x0:=arg (opA (seqL w) 0).op 0,
   ch:=loadX so.op,x:=sendY so.op,ats0:=callT (opA (seqL w) 0).op,i5:=regI (seqL lb),i6:=regI R6,i7:=regI R7,i8:=regI R8,i9:=regI (seqR l2),i10:=regI (seqL (seqR r4)),bid:=blkId blk,bid1:=blkId (seqL l2),
   ops5:=regO (seqL lb),ops9:=regO (seqR l2),ops6:=regO R6,l6:=(regO R6).toList.dropLast.dropLast,o6a:=opA R6 (n6-2),o6s:=opA R6 (n6-1),o7:=opA R7 0,o8f:=opA R8 0,o8g:=opA R8 1,o10:=opA (seqL (seqR r4)) 0,c5:=condC (seqL (seqR lb)),
   tid:=tyOf (opA R6 (n6-2)).op,ti:=infoOf P (tyOf (opA R6 (n6-2)).op),z0:=zOf P (tyOf (opA R6 (n6-2)).op),u0:=(zOf P (tyOf (opA R6 (n6-2)).op)).cells[0]?.getD default,d8:=dstN (opA R6 (n6-2)),d22:=dstN (opA R7 0),d23:=dstN (opA R8 0),y6:=loadX (opA R6 (n6-1)).op,
   xA:=arg (opA R7 0).op 0,xW:=arg (opA (seqL (seqR r4)) 0).op 0,caps:=goCaps (opA R8 0).op,ats7:=callT (opA R7 0).op,ats8:=callT (opA R8 1).op,ats10:=callT (opA (seqL (seqR r4)) 0).op}
def rcvOf(P:Program)(f:FuncId):Crew.Rcv:=
 let r8:=seqR (seqR (seqR (seqR (seqR (seqR (seqR (bodyOf P f)))))))
 let blk:=seqR (seqL r8)
 let lb:=loopB (blkB blk)
 let R14:=seqL lb
 let l1:=seqR lb
 let inn:=blkB (seqR l1)
 let R15:=seqL inn
 let R16:=seqR inn
 {i14:=regI R14,i15:=regI R15,i16:=regI R16,bid2:=blkId blk,bid3:=blkId (seqR l1),o14r:=opA R14 0,o14e:=opA R14 1,ops15:=regO R15,o31:=opA R16 0,o32:=opA R16 1,o34:=opA R16 2,o35:=opA R16 3,o36:=opA R16 4,
   c29:=condC (seqL l1),d9:=dstN (opA R16 4),d28:=dstN (opA R14 0),d31:=dstN (opA R16 0),d33:=dstN (opA R16 1),d34:=dstN (opA R16 2),d35:=dstN (opA R16 3),chx:=loadX (opA R14 0).op,
   tch:=tyOf (opA R14 0).op,elch:=chE (under P (tyOf (opA R14 0).op)),dch:=chD (under P (tyOf (opA R14 0).op)),zch:=zOf P (chE (under P (tyOf (opA R14 0).op))),ts:=tyOf (opA R16 2).op,el:=chE (under P (tyOf (opA R16 2).op)),
   ti:=infoOf P (chE (under P (tyOf (opA R16 2).op))),z:=zOf P (chE (under P (tyOf (opA R16 2).op)))}
def lstOf(P:Program)(Lk:WgLink)(f:FuncId):Crew.Lst:=
 let c:=bodyOf P f
 let r2:=seqR c
 let R2:=seqL r2
 let r3:=seqR r2
 let r4:=seqR r3
 let r5:=seqR r4
 let r6:=seqR r5
 let r7:=seqR r6
 let r8:=seqR r7
 let n2:=(regO R2).size
 {fn:=fnOf P f,cw:=crwOf P f,rc:=rcvOf P f,c0:=seqL c,i2:=regI R2,i3:=regI (seqL r3),i11:=regI (seqL r6),ops2:=regO R2,l2:=(regO R2).toList.dropLast.dropLast.dropLast,o2c:=opA R2 (n2-3),o2a:=opA R2 (n2-2),o2s:=opA R2 (n2-1),o3:=opA (seqL r3) 0,c4:=seqL (seqL r4),
   o11l:=opA (seqL r6) 0,o11c:=opA (seqL r6) 1,c12:=seqL r7,c13:=seqL (seqL r8),c17:=seqR r8,xcap:=loadX (opA R2 (n2-3)).op,tel:=infoOf P (rcvOf P f).elch,d17:=dstN (opA R2 (n2-3)),d7:=dstN (opA (seqL r3) 0),zg:=zOf P Lk.tWg,
   d25:=dstN (opA (seqL r5) 0),d26:=tmpN (arg (opA (seqL r6) 1).op 0),d27:=tmpN (rcvOf P f).chx,ats11:=callT (opA (seqL r6) 1).op}
end Go.Inst
