import Derived.Test.YtjilljfmaknihaaGreatA30
set_option linter.all false
set_option maxHeartbeats 16000000
namespace Go.Crew
open Go.Conc Go.ConcN Go.Ren Go.Conc.Lib Go.ConcR.Gen Go.ConcN.Gen
section
variable{P:aH}{L N:List aI}{Lk:WgLink}{c:Qc}{inv:Ev.Iv}{Z:Nat->Prop}{w00:ay}{Post:ae->ay->Prop}
theorem Ov{K}(a:Ev.iW P L N K)(hI:∀f args h v h',inv (.func f) args h=some (v,h')->Ev.dF P f args h v h'):Ev.IW P L N K noN inv:=⟨a,hI,fun _ _ _ _ _ _ e=>by cases e⟩
theorem Zz{t n d v}(h1:d<n)(h2:d<Ev.top):Ev.nV t n (some d) v=some (Ev.T.put Ev.T.deep t d (some v)):=by
 unfold Ev.nV;have b:Nat.blt d n=true:=by rw[ik];exact h1
 have a:Nat.blt d Ev.top=true:=by rw[ik];exact h2
 simp[b,a]
theorem TY{K:aC->List aC->ay->Prop}{invN:aI->List ae->Ev.H->aB (ae×Ev.H)}(hI:Ev.IW P L N K invN inv)(qR:∀f∈L,f∉N){n:Nat}{ops:Array bn}{rest:List Nat}{b:aC}{k:List ig}{cs:List aC}(r:b.kind=.normal)(q:b.roundOf=none)(hcs:Ev.qN cs):∀{l:List bn} {i:Nat} {t t':Ev.T ae} {h h':Ev.H},(∀j,j<l.length->ops[i+j]?=l[j]?)->Ev.uU P (Ev.FK N invN inv) (Ev.ckN P L N) n ops.toList l t h=some (t',h')->∀{ρ:Ev.jV} {a:Act} {w:ay},Ev.TR ρ n t a.tmps->Ev.HR ρ h w->Ev.lK ρ h.next h'.next->(∀ρ' a' w',a'.defers=a.defers->Ev.Stp ρ h w ρ' h' w'->Ev.HR ρ' h' w'->Ev.TR ρ' n t' a'.tmps->K (b.atR a' (.inRegion ops rest::k)) cs w')->K (b.atR a (.inRegion ops (List.range' i l.length++rest)::k)) cs w
|[],i,t,t',h,h',hl,e,ρ,a,w,ht,hr,hu,hk=>by cases e;exact hk ρ a w rfl (.refl ρ h _ _ rfl) hr ht
|o::l,i,t,t',h,h',hl,e,ρ,a,w,ht,hr,hu,hk=>by
 have ho:ops[i]?=some o:=by simpa using hl 0 (by simp)
 have s:∀j,j<l.length->ops[i+1+j]?=l[j]?:=fun j hj=>by have:=hl (j+1) (by simp;omega);rw[show i+(j+1)=i+1+j by omega] at this;simpa using this
 have g:List.range' i (o::l).length++rest=i::(List.range' (i+1) l.length++rest):=by simp[uw]
 rw[g];simp only[Ev.uU] at e;split at e
 .rename_i hw;have d:=Ev.gJ ht hw
  split at e;case h_2=>cases e
  rename_i y;split at e
  .rename_i v h1 B
   split at e
   .rename_i t1 z;have D:=Ev.wO hI.next B;have C:=Ev.gX hI.next e;refine hI.one B y qR ho d ht hr (hu.sub (aA _) C) hcs r q fun u v' w1 s2 s3 s4=>?_;have p:Ev.TR u n t1 (a.put o.dst v').tmps:=(ht.mono s2.le).put z s4;exact TY hI qR r q hcs s e p s3 ((hu.sub D (aA _)).step s2 (aA _)) fun m A w2 d1 d2 d3 d4=>hk m A w2 (by rw[d1,Ev.put_defers]) (s2.trans d2) d3 d4
   cases e
  cases e
 .rename_i hw;have d:=Ev.gJ ht hw
  split at e;case h_2=>cases e
  rename_i x;split at e
  .rename_i t1 z;have p:Ev.TR ρ n t1 (a.put o.dst undef).tmps:=ht.put z Ev.lM;refine hI.ups.skip ho x d hcs fun tp=>?_;exact TY hI qR r q hcs s e p (hr.heap rfl) hu fun m A w2 d1 d2 d3 d4=>hk m A w2 (by rw[d1,Ev.put_defers]) (d2.heap rfl) d3 d4
  cases e
 cases e
theorem acF{ρ ρ' h h' w w'}(s:Ev.Stp ρ h w ρ' h' w'){hi}(i:h'.next<=hi):Ev.Stp ρ h w ρ' ⟨h'.t,hi,h'.log⟩ w':=by have⟨l,l1,l2,g,f,e,d⟩:=s.log;exact⟨s.le,bM s.next i,fun b h1 h2=>s.born b h1 (h2.imp id fun a=>bM i a),s.size,l,l1,l2,g,fun b hb=>(f b hb).imp id fun a=>⟨a.1,bT a.2 i⟩,e,d⟩
theorem Qc.akk(hz:bz P)(hSk:mM P (·∈L))(qR:∀f∈L,f∉N)(H:WgLib P Lk)(hN:Ev.qK inv)(hI:∀f args h v h',inv (.func f) args h=some (v,h')->Ev.dF P f args h v h'){f}(hc:c.OK P L N Lk f){hi args h h' v}(e:c.di P L N inv hi args h=some (v,h')):Ev.yE P L N (@KM _ _ (aV P L N) P (·∈L) Z w00 Post) f args h v h':=by
 unfold Qc.di at e;split at e;case h_2=>cases e
 rename_i m nC nW s7 g;split at e;case h_2=>cases e
 rename_i ps tE erounds;split at e;case h_2=>cases e
 rename_i s11 r;split at e;case h_2=>cases e
 rename_i eat;split at e;case h_2=>cases e
 rename_i F e17;split at e;case h_2=>cases e
 rename_i v17 h17 p;split at e;case h_2=>cases e
 rename_i ehi;have ehi:=iF ehi;obtain⟨rfl,rfl⟩:=Prod.mk.inj (aN e);generalize hn:args.length+(c.fn.ntmps-args.length)=n at *;unfold Qc.preO at g;rw[hn] at g;split at g;case h_2=>cases g
 rename_i ta eta;split at g;case h_2=>cases g
 rename_i s1 ec0;split at g;case h_2=>cases g
 rename_i s2 ec1;split at g;case h_2=>cases g
 rename_i t3 e2m;split at g;case h_2=>cases g
 rename_i m' ecap;split at g;case h_2=>cases g
 rename_i t5 q em e2as;split at g;case h_2=>cases g
 rename_i C ec4;obtain⟨rfl,rfl,rfl,rfl⟩:m'=m/\s2.h.next=nC/\q.next=nW/\C=s7:=by
  have:=aN g
  simp[uI] at this;exact this
 rw[ik] at em;unfold Qc.ajY at r;split at r;case h_2=>cases r
 rename_i t9 h8 eload;split at r;case h_2=>cases r
 rename_i kch ekch;split at r;case h_2=>cases r
 rename_i s10 hkch ec12;split at r;case h_2=>cases r
 rename_i d ec13;obtain rfl:=aN r;obtain rfl:=bG hkch;unfold Qc.atO at eat;simp only[aT,ik] at eat;obtain⟨⟨⟨⟨⟨⟨⟨⟨⟨⟨⟨⟨⟨⟨⟨⟨a1,a2⟩,a3⟩,a4⟩,a5⟩,a6⟩,a7⟩,a8⟩,a9⟩,a10⟩,a11⟩,a12⟩,a13⟩,a14⟩,a15⟩,a16⟩,a17⟩:=eat;have hps:=bG a1;have a2:=iF a2;have a10:=iF a10;have a11:=iF a11;have M:Ev.iW P L N (@KM _ _ (aV P L N) P (·∈L) Z w00 Post):=AZ hz hSk;have V:=Ov M hI;obtain⟨n0,r0⟩:=Ev.nZ V qR c.c0 _ _ ec0;obtain⟨n1,r1⟩:=Ev.nZ V qR c.c1 _ _ ec1;have n2:=Ev.gX V.next e2as;obtain⟨n4,_⟩:=Ev.nZ V qR c.c4 _ _ ec4;obtain⟨n12,_⟩:=Ev.nZ V qR c.c12 _ _ ec12;obtain⟨n13,_⟩:=Ev.nZ V qR c.c13 _ _ ec13;obtain⟨n17,r17⟩:=Ev.nZ V qR c.c17 _ _ e17;have n8:=Ev.gX V.next eload;simp only at n0 n1 n2 n4 n12 n13;have n17:=n17;have hne:¬ ∃id,F.1=.exit id:=fun⟨id,hid⟩=>by unfold Ev.Jt at p;rw[hid] at p;cases p
 have hres:Ev.Az P F.2.t F.2.h c.fn.results.toList=some v17/\h17=F.2.h:=by
  unfold Ev.Jt at p;split at p
  .cases p
  split at p
  .rename_i u hu';cases p;exact⟨hu',rfl⟩
  cases p
 obtain⟨hres,rfl⟩:=hres;have hOKc:=hc;refine⟨by show h.next<=hi;omega,c.fn,c.body,hc.ff,hc.fb,hc.fname,hc.fcl,fun ρ O w cf cs hcs hcm ha hr hu hk=>?_⟩;have hu:=hu
 let b:aC:={ (default:aC) with fn:=f,kind:=.normal}
 have A:b.kind=.normal:=rfl;have z:b.roundOf=none:=rfl;have hl:=ha.length;have henter:Frame.enter P f ⟨O⟩ .normal=b.atR {tmps:=(⟨O⟩:Array ae)++Array.replicate (c.fn.ntmps-args.length) undef,defers:=[]} [.code c.body]:=by simp[Frame.enter,Frame.atR,hc.ff,hc.fb,b,hl];rfl
 rw[henter];have a:=hcs.cons cf;have leave:∀ρ' a' w' k0,a'.defers=[]->Ev.Stp ρ h w ρ' F.2.h w'->Ev.HR ρ' F.2.h w'->Ev.TR ρ' n F.2.t a'.tmps->@KM _ _ (aV P L N) P _ Z w00 Post {b.atR a' k0 with mode:=.returning} _ w':=fun ρ' a' w' k0 d1 d2 d3 d4=>by
  have hlv:∀W,∃v',({b.atR a' k0 with mode:=.returning}:aC).leaving P _ (.returned v')/\Ev.VR ρ' v17 v':=fun W=>by obtain⟨v',r1,r2⟩:=Ev.zu d4 (d3.heap (w':=wt w' W) rfl) hres;exact⟨v',⟨rfl,d1,rfl,c.fn,hc.ff,r1⟩,r2⟩
  obtain⟨v0,hl0,_⟩:=hlv w'.tape;refine M.own (@Fit.leaving _ P (aV P L N) _ _ _ _ hl0) fun W=>?_;obtain⟨v',q1,q2⟩:=hlv W;obtain⟨es,hst⟩:=Ev.Ws (cs:=cs) q1;exact⟨_,_,wt w' W,es,hst,by rw[Ev.KL];exact hcm,hcs,fun hc=>Ren.dH hc rfl,.of rfl,hk ρ' v' _ (acF (d2.tape W) ehi) ⟨(d3.heap (w':=wt w' W) rfl).fD,(d3.heap (w':=wt w' W) rfl).ob,d3.inj⟩ q2⟩
 have ht0:Ev.TR ρ n ta ((⟨O⟩:Array ae)++Array.replicate (c.fn.ntmps-args.length) undef):=by rw[<-hn];exact Ev.Ez eta ha
 generalize hA0:({tmps:=(⟨O⟩:Array ae)++Array.replicate (c.fn.ntmps-args.length) undef,defers:=[]}:Act)=a0;have ht0:Ev.TR ρ n ta a0.tmps:=by rw[<-hA0];exact ht0
 have hd0:a0.defers=[]:=by rw[<-hA0]
 unfold Qc.body;refine gV M a fun w1 g1=>?_;refine r0 ρ b a0 _ (cf::cs) w1 A z a ht0 (hr.heap g1) (hu.sub (aA _) (by show s1.h.next<=hi;omega)) fun ρ1 b1 w2 d1 st1 hr1 ht1=>?_;have st1:Ev.Stp ρ h w ρ1 s1.h w2:=st1.heap g1;refine gV M a fun w3 g3=>?_;refine r1 ρ1 b b1 _ (cf::cs) w3 A z a ht1 (hr1.heap g3) (((hu.sub n0 (aA _)).step st1 (aA _)).sub (aA _) (by show s2.h.next<=hi;omega)) fun ρ2 b2 w4 d2 st2 hr2 ht2=>?_;have st2:Ev.Stp ρ h w ρ2 s2.h w4:=st1.trans (st2.heap g3);have hu2:Ev.lK ρ2 s2.h.next hi:=(hu.sub (by omega) (aA _)).step st2 (aA _);refine gV M a fun w5 g5=>?_;refine jk M a fun w6 g6=>?_;have hrng:List.range (#[c.o2m,c.o2c,c.o2a,c.o2s]:Array bn).size=List.range' 0 [c.o2m].length++[1,2,3]:=rfl;rw[hrng];refine M.Ji a (l:=[c.o2m]) (i:=0) (rest:=[1,2,3]) (fun j hj=>by simp at hj;subst hj;rfl) e2m ht2 fun b3 w7 d3 g7 ht3 _=>?_;have e7:w7.heap=w4.heap:=by rw[g7,g6,g5]
 have hw2c:Region.wanted c.o2c (yielded #[c.o2m,c.o2c,c.o2a,c.o2s] b3.tmps)=true:=by unfold Region.wanted;rw[hc.g2c]
 have hcapv:b3.eval c.aaM=.int .i64 m':=(Ev.fA ht3 _ _ ecap).flat rfl;refine @rW.aiq (aV P L N) P (·∈L) Z w00 Post b b3 _ (cf::cs) w7 #[c.o2m,c.o2c,c.o2a,c.o2s] 1 [2,3] c.o2c A z rfl hw2c c.rc.tch c.rc.WN c.aaM c.rc.dch c.tel m' hc.als hc.rc.tch hc.tel (Ev.zL hc.ahW) hcapv em hc.alc ?_;rw[hc.d2c];generalize hgC:w7.heap.size=I;generalize hw8:({w7 with heap:=w7.heap.push (.chan m' #[] false 0 0 false)}:ay)=w8;have hw8':w8.heap=w7.heap.push (.chan m' #[] false 0 0 false):=by rw[<-hw8]
 have hup2:ρ2 s2.h.next=.dC:=hu2 _ (aA _) (by omega);obtain⟨U,hr3⟩:=reserve (w':=w8) (hr2.heap e7) hup2 hw8' rfl;rw[hgC] at U hr3;generalize hρ3:Ev.upd ρ2 s2.h.next (.at_ I 0)=ρ3 at U hr3;have st3:Ev.Stp ρ h w ρ3 ⟨s2.h.t,s2.h.next+1,s2.h.log⟩ w8:=st2.trans (U.heap e7);have hu3:Ev.lK ρ3 (s2.h.next+1) hi:=(hu2.sub (Ll _) (aA _)).step U (aA _);have hC3:ρ3 s2.h.next=.at_ I 0:=by rw[<-hρ3];exact Ev.upd_same _ _ _
 have hget3:(⟨s2.h.t,s2.h.next+1,s2.h.log⟩:Ev.H).get s2.h.next=none:=by
  cases hq:(⟨s2.h.t,s2.h.next+1,s2.h.log⟩:Ev.H).get s2.h.next with
  |none=>rfl
  |some o=>
  obtain⟨x,k,o',h1,_⟩:=hr2.ob s2.h.next o hq;rw[hup2] at h1;cases h1
 have hsz8:w8.heap.size=I+1:=by rw[hw8',<-hgC];simp
 generalize hb4:b3.put (some c.d17) (.chan (some I))=b4;have ht4:Ev.TR ρ3 n (Ev.T.put Ev.T.deep t3 c.d17 (some (.chan (some s2.h.next)))) b4.tmps:=by
  have h1:Ev.TR ρ3 n t3 b3.tmps:=ht3.mono U.le;have h2:Ev.nV t3 n (some c.d17) (.chan (some s2.h.next))=some (Ev.T.put Ev.T.deep t3 c.d17 (some (.chan (some s2.h.next)))):=by exact Zz a14 hc.l17
  rw[<-hb4];exact h1.put h2 (.chan (by unfold Ev.BR;rw[hC3]))
 have hK2:Ev.iW P L N (@rW _ _ (aV P L N) P (·∈L) Z w00 Post (I+1) (Lr I m')):=yl hz hSk (Lr.still (DT _));have hI2:=Ov (inv:=inv) hK2 hI;refine Ev.IW.ops hI2 qR A z a (l:=[c.o2a,c.o2s]) (i:=2) (by rfl) e2as ht4 hr3 (hu3.sub (aA _) (by show q.next<=hi;omega)) fun ρ4 b5 w9 d5 S hr4 ht5=>?_;have st4:Ev.Stp ρ h w ρ4 q w9:=st3.trans S;have hu4:Ev.lK ρ4 q.next hi:=(hu3.sub n2 (aA _)).step S (aA _);have hC4:ρ4 s2.h.next=.at_ I 0:=by rw[pM S hget3 (DT _) (by rw[hC3];simp)];exact hC3
 have hget4:q.get s2.h.next=none:=GU S hget3 (DT _);have hsz9:I+1<=w9.heap.size:=by rw[<-hsz8];exact S.size
 refine gV hK2 a fun w10 g10=>?_;refine jk hK2 a fun w11 g11=>?_;have e11:w11.heap=w9.heap:=by rw[g11,g10]
 have hrng3:List.range (#[c.o3]:Array bn).size=[0]:=rfl;rw[hrng3];have hw3:Region.wanted c.o3 (yielded #[c.o3] b5.tmps)=true:=by unfold Region.wanted;rw[hc.g3]
 refine @rW.agf (aV P L N) P (·∈L) Z w00 Post b b5 _ (cf::cs) w11 #[c.o3] 0 [] c.o3 A z rfl hw3 Lk.tWg c.zg hc.op3 hc.zg hc.zgc I m' (I+1) (by rw[e11];omega) (by rw[e11];omega) ?_;rw[hc.d3];generalize hgW:w11.heap.size=gW;generalize hw12:({w11 with heap:=w11.heap.push (.cells #[] Lk.tWg (0,0))}:ay)=w12;have hw12':w12.heap=w11.heap.push (.cells #[] Lk.tWg (0,0)):=by rw[<-hw12]
 have hup4:ρ4 q.next=.dC:=hu4 _ (aA _) (by omega);obtain⟨R,hr5⟩:=reserve (w':=w12) (hr4.heap e11) hup4 hw12' rfl;rw[hgW] at R hr5;generalize hρ5:Ev.upd ρ4 q.next (.at_ gW 0)=Q at R hr5;have st5:Ev.Stp ρ h w Q ⟨q.t,q.next+1,q.log⟩ w12:=st4.trans (R.heap e11);have hu5:Ev.lK Q (q.next+1) hi:=(hu4.sub (Ll _) (aA _)).step R (aA _);have hW5:Q q.next=.at_ gW 0:=by rw[<-hρ5];exact Ev.upd_same _ _ _
 have hCW:s2.h.next<q.next:=n2;have hC5:Q s2.h.next=.at_ I 0:=by rw[<-hρ5,Ev.bJ _ _ (by omega)];exact hC4
 have hgetW5:(⟨q.t,q.next+1,q.log⟩:Ev.H).get q.next=none:=by
  cases hq:(⟨q.t,q.next+1,q.log⟩:Ev.H).get q.next with
  |none=>rfl
  |some o=>
  obtain⟨x,k,o',h1,_⟩:=hr4.ob q.next o hq;rw[hup4] at h1;cases h1
 have hgWC:I<gW:=by rw[<-hgW,e11];omega
 have hsz12:w12.heap.size=gW+1:=by rw[hw12',<-hgW];simp
 generalize hb6:b5.put (some c.d7) (.pointer (some ⟨gW,0,none⟩))=b6;have ht6:Ev.TR Q n (Ev.T.put Ev.T.deep t5 c.d7 (some (.pointer (some ⟨q.next,0,none⟩)))) b6.tmps:=by
  have h1:Ev.TR Q n t5 b5.tmps:=ht5.mono R.le;have h2:Ev.nV t5 n (some c.d7) (.pointer (some ⟨q.next,0,none⟩))=some (Ev.T.put Ev.T.deep t5 c.d7 (some (.pointer (some ⟨q.next,0,none⟩)))):=by exact Zz a15 hc.l7
  rw[<-hb6];exact h1.put h2 (.ptr ⟨by show Ev.BR _ q.next _;unfold Ev.BR;rw[hW5],rfl,rfl,rfl⟩)
 have hK4:Ev.iW P L N (@rW _ _ (aV P L N) P (·∈L) Z w00 Post (gW+1) (Qa Lk.tWg gW I m')):=yl hz hSk (Qa.still (DT _) (by omega));have hI4:=Ov (inv:=inv) hK4 hI;refine qf hK4 a fun w13 g13=>?_;refine gV hK4 a fun w14 g14=>?_;refine gV hK4 a fun w15 g15=>?_;have e15:w15.heap=w12.heap:=by rw[g15,g14,g13]
 obtain⟨_,r4⟩:=Ev.nZ hI4 qR c.c4 _ _ ec4;refine r4 Q b b6 _ (cf::cs) w15 A z a ht6 (hr5.heap e15) (hu5.sub (aA _) (by show C.h.next<=hi;omega)) fun E b7 w16 d7 B hr6 ht7=>?_;have B:Ev.Stp Q ⟨q.t,q.next+1,q.log⟩ w12 E C.h w16:=B.heap e15;have st6:Ev.Stp ρ h w E C.h w16:=st5.trans B;have hu6:Ev.lK E C.h.next hi:=(hu5.sub n4 (aA _)).step B (aA _);have hgetC5:(⟨q.t,q.next+1,q.log⟩:Ev.H).get s2.h.next=none:=hget4;have hW6:E q.next=.at_ gW 0:=by rw[pM B hgetW5 (DT _) (by rw[hW5];simp)];exact hW5
 have hC6:E s2.h.next=.at_ I 0:=by rw[pM B hgetC5 (Zb hCW) (by rw[hC5];simp)];exact hC5
 have K:C.h.get s2.h.next=none:=GU B hgetC5 (Zb hCW);have hsz16:gW+1<=w16.heap.size:=by rw[<-hsz12];exact B.size
 refine DW hK4 a fun w17 g17=>?_;refine Vf hK4 a fun w18 g18=>?_;have e18:w18.heap=w16.heap:=by rw[g18,g17]
 have n4':q.next+1<=C.h.next:=n4;refine LQ.aiW hz hSk H hN hI hc.cw (h:=C.h) (hi:=hi) a12 a13 (hr6.heap e18) hW6 (by rw[e18];omega) hC6 (by rw[e18];omega) K (by omega) (by omega) hu6 (by omega) erounds hps (aA _) (by omega) A z a ht7 ⟨DT _,by omega⟩ fun b8 w19 d8 ht8 hr8 st8a=>?_;have hK5:Ev.iW P L N (@rW _ _ (aV P L N) P (·∈L) Z w00 Post (gW+1) (SA I m' (ps.filterMap id))):=yl hz hSk (SA.still (by omega));rw[pg];simp only[F9,List.getElem?_cons_zero,Option.bind_some,hc.d10];generalize hb9:b8.put (some c.d25) (.tuple #[])=b9;have ht9:Ev.TR E n (Ev.strike tE c.d25) b9.tmps:=by rw[<-hb9];exact ht8.forget hc.l25 _
 have st8a:Ev.Stp E C.h w18 E C.h w19:=st8a;have st8:Ev.Stp ρ h w E C.h w19:=st6.trans (st8a.heap e18);refine qf hK5 a fun w20 g20=>?_;refine gV hK5 a fun w21 g21=>?_;refine jk hK5 a fun w22 g22=>?_;have e22:w22.heap=w19.heap:=by rw[g22,g21,g20]
 have hrng11:List.range (#[c.TG,c.N8]:Array bn).size=[0,1]:=rfl;rw[hrng11];have hI5:=Ov (inv:=inv) hK5 hI;have hrng11':([0,1]:List Nat)=List.range' 0 [c.TG].length++[1]:=rfl;rw[hrng11'];refine TY hI5 qR A z a (l:=[c.TG]) (i:=0) (rest:=[1]) (fun j hj=>by simp at hj;subst hj;rfl) eload ht9 (hr8.heap e22) (hu6.sub (aA _) (by show h8.next<=hi;omega)) fun ρ7 b10 w23 d10 J hr9 ht10=>?_;have J:Ev.Stp E C.h w19 ρ7 h8 w23:=J.heap e22;have st9:Ev.Stp ρ h w ρ7 h8 w23:=st8.trans J;have hu7:Ev.lK ρ7 h8.next hi:=(hu6.sub n8 (aA _)).step J (aA _);have hC7:ρ7 s2.h.next=.at_ I 0:=by rw[pM J K (by omega) (by rw[hC6];simp)];exact hC6
 have hgetC7:h8.get s2.h.next=none:=GU J K (by omega);have hw11c:Region.wanted c.N8 (yielded #[c.TG,c.N8] b10.tmps)=true:=by unfold Region.wanted;rw[hc.alK]
 have hvch:b10.eval (.tmp c.d26)=.chan (some I):=by
  have h3:=Ev.fA ht10 _ _ ekch;generalize b10.eval (.tmp c.d26)=y at h3;cases h3 with
  |same h=>cases h
  |chan h4=>rw[h4.at_ hC7]
 refine @rW.close (aV P L N) P (·∈L) Z w00 Post b b10 _ (cf::cs) w23 #[c.TG,c.N8] 1 [] c.N8 A z rfl hw11c (.tmp c.d26) c.aeO hc.ajV trivial I m' (gW+1) (ps.filterMap id) hvch fun l Y=>?_;rw[hc.alP];have hput:b10.put none (.tuple #[])=b10:=rfl;rw[hput];have hK6:Ev.iW P L N (@rW _ _ (aV P L N) P (·∈L) Z w00 Post (gW+1) (nD I m' l)):=yl hz hSk (nD.still (by omega));have hI6:=Ov (inv:=inv) hK6 hI;refine qf hK6 a fun w24 g24=>?_;refine gV hK6 a fun w25 g25=>?_;have e25:w25.heap=w23.heap:=by rw[g25,g24]
 obtain⟨_,r12⟩:=Ev.nZ hI6 qR c.c12 _ _ ec12;refine r12 ρ7 b b10 _ (cf::cs) w25 A z a ht10 (hr9.heap e25) (hu7.sub (aA _) (by show s10.h.next<=hi;omega)) fun ρ8 b11 w26 d11 s hr10 ht11=>?_;have s:Ev.Stp ρ7 h8 w23 ρ8 s10.h w26:=s.heap e25;have st10:Ev.Stp ρ h w ρ8 s10.h w26:=st9.trans s;have hu8:Ev.lK ρ8 s10.h.next hi:=(hu7.sub n12 (aA _)).step s (aA _);have hC8:ρ8 s2.h.next=.at_ I 0:=by rw[pM s hgetC7 (by omega) (by rw[hC7];simp)];exact hC7
 have hgetC8:s10.h.get s2.h.next=none:=GU s hgetC7 (by omega);refine gV hK6 a fun w27 g27=>?_;refine gV hK6 a fun w28 g28=>?_;have e28:w28.heap=w26.heap:=by rw[g28,g27]
 obtain⟨_,r13⟩:=Ev.nZ hI6 qR c.c13 _ _ ec13;refine r13 ρ8 b b11 _ (cf::cs) w28 A z a ht11 (hr10.heap e28) (hu8.sub (aA _) (by show d.h.next<=hi;omega)) fun X b12 w29 d12 D hr11 ht12=>?_;have D:Ev.Stp ρ8 s10.h w26 X d.h w29:=D.heap e28;have st11:Ev.Stp ρ h w X d.h w29:=st10.trans D;have hu9:Ev.lK X d.h.next hi:=(hu8.sub n13 (aA _)).step D (aA _);have hC9:X s2.h.next=.at_ I 0:=by rw[pM D hgetC8 (by omega) (by rw[hC8];simp)];exact hC8
 refine DW hK6 a fun w30 g30=>?_;refine Vf hK6 a fun w31 g31=>?_;have e31:w31.heap=w29.heap:=by rw[g31,g30]
 have hr12:Ev.HR X d.h w31:=hr11.heap e31;have st12:Ev.Stp ρ h w X d.h w31:=st11.trans (.refl _ _ _ _ e31);have h9v:b12.tmps[c.rc.d9]?=some (.slice none 0 0):=by
  split at a6
  .rename_i hg9
   obtain⟨v9,h1,h2⟩:=ht12.get _ _ hg9;rw[h2.flat rfl] at h1;exact h1
  cases a6
 have htL:Ev.TR X n (Ev.T.put Ev.T.deep .nil c.d27 (some (.chan (some s2.h.next)))) b12.tmps:=ht12.sub a5;have hmem:∀u∈l,u∈ps.filterMap id:=fun u hu=>Y.mem_iff.1 hu;have hone:∀u∈ps.filterMap id,adL u=true/\Ev.iZ L [u]=true/\c.rc.uh P L n (Ev.T.put Ev.T.deep .nil c.d27 (some (.chan (some s2.h.next)))) u=true/\Js inv c.rc.fL d.h u (intsOf inv c.rc.fL d.h u) c.iT=true/\(∀h' v,inv (.func c.rc.fL) [u] ⟨d.h.t,d.h.next,[]⟩=some (v,h')->h'.next<=hi)/\Ev.kY (intsOf inv c.rc.fL d.h u)=true:=fun u hu=>by
  have:=bZ.1 a9 u hu
  unfold Qc.EG at this;simp only[aT] at this;obtain⟨⟨⟨⟨⟨o1,o2⟩,o3⟩,o4⟩,o5⟩,o6⟩:=this;refine⟨o1,o2,o3,o4,fun h' v hv=>?_,o6⟩;rw[hv] at o5;exact iF o5
 have hll:l.length=(ps.filterMap id).length:=Y.length_eq;have hchx:Ev.di (Ev.T.put Ev.T.deep .nil c.d27 (some (.chan (some s2.h.next)))) c.rc.WW=some (.chan (some s2.h.next)):=by rw[hc.WW];show(Ev.T.put (α:=ae) Ev.T.deep .nil c.d27 (some (.chan (some s2.h.next)))).get c.d27=some (Value.chan (some s2.h.next));rw[Ev.T.get_put _ _ _ _ _ (Ev.df hc.l27),aY rfl]
 refine P6.rounds (h:=d.h) (v0:=w31) (iT:=c.iT) (ints:=intsOf inv c.rc.fL d.h) hz hSk hI hc.rc hr12 hC9 (by omega) hu9 a7 hchx a8 A z a l (fun u hu=>?_) [] [] (.slice none 0 0) b12 w31 (by simp;omega) ⟨rfl,fun i u y hi=>by simp at hi,Zc,.inl ⟨rfl,rfl⟩,fun _ _=>rfl,aA _,hr12.fD⟩ htL h9v fun b13 w32 bs sv d13 hG ht13 h913=>?_
 .obtain⟨o1,o2,o3,o4,o5,_⟩:=hone u (hmem u hu)
  refine⟨?_,?_,o2,o3,o4,o5⟩
  .cases u<;>first|rfl|(cases o1;done)
  cases u<;>first|rfl|(cases o1;done)
 have hvi:ps.filterMap id≠[]:=fun e=>by rw[e] at a3;cases a3
 have hG:P9 c.iT c.rc.el (intsOf inv c.rc.fL d.h) w31 w32 l bs sv:=hG;obtain⟨ρ10,stB,hrB,vB⟩:=P9.bag hr12 hG Y (zM a4) hvi (hu9.sub (aA _) a10) a11 fun u hu=>(hone u hu).2.2.2.2.2;have ht14:Ev.TR ρ10 n (Ev.T.put Ev.T.deep (Ev.T.put Ev.T.deep .nil c.d27 (some (.chan (some s2.h.next)))) c.rc.d9 (some (.slice (some ⟨d.h.next,0,none⟩) (ps.filterMap id).length Ev.soft))) b13.tmps:=(ht13.mono stB.le).know hc.l9 h913 vB;have st14:Ev.Stp ρ h w ρ10 (YY (intsOf inv c.rc.fL d.h) c.iT c.rc.el (ps.filterMap id) d.h) w32:=st12.trans stB;have hu10:Ev.lK ρ10 (YY (intsOf inv c.rc.fL d.h) c.iT c.rc.el (ps.filterMap id) d.h).next F.2.h.next:=(hu9.sub (by show d.h.next<=d.h.next+1+_;omega) ehi).step stB (aA _);refine @KM.any _ _ (aV P L N) P (·∈L) Z w00 Post _ _ _ _ _ ?_;have hdef:b13.defers=[]:=by rw[d13,d12,d11,d10,<-hb9,Ev.put_defers,d8,d7,<-hb6,Ev.put_defers,d5,<-hb4,Ev.put_defers,d3,d2,d1,hd0]
 refine r17 ρ10 b b13 [] (cf::cs) w32 A z a ht14 hrB hu10 fun ρ' a' w' d1 d2 d3 d4=>?_;have hda:a'.defers=[]:=d1.trans hdef;have d2:Ev.Stp ρ h w ρ' F.2.h w':=st14.trans d2;obtain⟨ex,sx⟩:=F;cases ex with
 |exit id=>exact absurd ⟨id,rfl⟩ hne
 |normal=>
 show @KM _ _ (aV P L N) P (·∈L) Z w00 Post (b.atR a' []) (cf::cs) w';refine M.own (@Ue _ P (aV P L N) _ _ rfl rfl) fun W=>?_;exact⟨{b.atR a' [] with mode:=.returning},cf::cs,wt w' W,#[],by unfold Conc.G;simp[stepG,stepG.exec,Frame.atR,b];rfl,trivial,a,fun hc=>Ren.dH hc rfl,.of rfl,leave ρ' a' (wt w' W) [] hda (d2.tape W) (d3.heap rfl) d4⟩
 |ret=>
 intro k0;refine M.own (Ev.pV rfl) fun W=>?_;exact⟨{b.atR a' (.code .ret::k0) with mode:=.returning},cf::cs,wt w' W,#[],by unfold Conc.G;simp[stepG,stepG.exec,Frame.atR,b];rfl,trivial,a,fun hc=>Ren.dH hc rfl,.of rfl,leave ρ' a' (wt w' W) _ hda (d2.tape W) (d3.heap rfl) d4⟩
end
end Go.Crew
namespace Go.Inst
open Go.Conc.Lib
def fM:Code→Code
|.seq a _=>a
|c=>c
def fV:Code→Code
|.seq _ b=>b
|c=>c
def IC:Code→Nat
|.block i _=>i
|_=>0
def Uo:Code→Code
|.block _ c=>c
|c=>c
def V9:Code→Code
|.loop c=>c
|c=>c
def wo:Code→Nat
|.region i _ _=>i
|_=>0
def vZ:Code→Array bn
|.region _ ops _=>ops
|_=>#[]
def condC:Code→fH
|.cond c _ _=>c
|_=>default
def aan:Code→Code
|.cond _ a _=>a
|c=>c
def jU(c:Code)(i:Nat):bn:=(vZ c)[i]?.getD default
def Ad(o:bn):Nat:=o.dst.getD 0
def afw:fH→Nat
|.tmp d=>d
|_=>0
def akA:Op→Array fH
|.call c=>c.args
|.go c=>c.args
|.defer c=>c.args
|_=>#[]
def RQ:Op→Array aZ
|.call c=>c.argTypes
|.go c=>c.argTypes
|.defer c=>c.argTypes
|_=>#[]
def aeI:Op→aI
|.call c=>match c.callee with
 |.value (.func f)=>f
 |_=>0
|_=>0
def arg(o:Op)(i:Nat):fH:=(akA o)[i]?.getD default
def under(P:aH)(t:aZ):TypeDesc:=(P.underlying t).getD default
def FY(P:aH)(f:aI):Code:=match P.funcs[f]? with
|some fn=>match fn.body with
 |some c=>c
 |none=>.skip
|none=>.skip
def aea(P:aH)(f:aI):Func:=match P.funcs[f]? with
|some fn=>fn
|none=>default
def loadT:Op→aZ
|.load t _=>t
|_=>0
def We:Op→fH
|.load _ x=>x
|.indexAddr _ x _=>x
|.makeChan _ x=>x
|.recv _ x _=>x
|.send x _=>x
|.store _ _ x=>x
|_=>default
def ajB:Op→fH
|.send _ y=>y
|_=>default
def Ls:Op→aZ
|.load t _=>t
|.alloc t=>t
|.makeChan t _=>t
|.recv t _ _=>t
|.buildSlice t _ _=>t
|.store t _ _=>t
|_=>0
def akC(P:aH)(f:aI):Ev.Bst:=
 let c:=FY P f
 let s:=fM (fV c)
 let blk:=fV s
 let lb:=V9 (Uo blk)
 let l2:=fV (fV lb)
 let jW:=Uo (fM l2)
 let cnd:=fV (fV jW)
 {fn:=aea P f,c0:=fM c,c1:=fM s,c7:=fV (fV c),BQ:=IC blk,qE:=IC (fM l2),i2:=wo (fM lb),i3:=wo (fM jW),i4:=wo (fM (fV jW)),i5:=wo (aan cnd),i6:=wo (fV l2),ops2:=vZ (fM lb),c12:=condC (fM (fV lb)),o13:=jU (fM jW) 0,o14:=jU (fM jW) 1,o8:=jU (fM jW) 2,ops4:=vZ (fM (fV jW)),c19:=condC cnd,ops5:=vZ (aan cnd),ops6:=vZ (fV l2),d1:=Ad (jU (aan cnd) 1),d8:=Ad (jU (fM jW) 2),d9:=afw (We (jU (fM jW) 0).op),d11:=Ad (jU (fV l2) 1),d13:=Ad (jU (fM jW) 0),d14:=Ad (jU (fM jW) 1),tE:=loadT (jU (fM jW) 1).op,dE:=under P (loadT (jU (fM jW) 1).op)}
def goF:Op→aI
|.makeFunc (.func f) _ _=>f
|_=>0
def aiJ:Op→Array fH
|.makeFunc _ _ c=>c
|_=>#[]
def chE:TypeDesc→aZ
|.chan _ e=>e
|.slice e=>e
|_=>0
def chD:TypeDesc→ChanDir
|.chan d _=>d
|_=>default
def Yo(P:aH)(t:aZ):TypeInfo:=(P.info? t).getD default
def zOf(P:aH)(t:aZ):ae:=(Ev.zeroOf P t).getD default
def aky(P:aH)(f:aI):Crew.LQ:=
 let r3:=fV (fV (fV (FY P f)))
 let r4:=fV r3
 let blk:=fV (fM r4)
 let lb:=V9 (Uo blk)
 let l2:=fV (fV lb)
 let jW:=Uo (fM l2)
 let R6:=fM jW
 let R7:=fM (fV jW)
 let R8:=fV (fV jW)
 let wc:=goF (jU R8 0).op
 let w:=FY P wc
 let W1:=fM (fV w)
 let W2:=aan (fV (fV w))
 let so:=(vZ W2).back?.getD default
 {wc:=wc,fn:=aea P wc,j0:=wo (fM w),j1:=wo W1,j2:=wo W2,o0:=jU (fM w) 0,so:=so,lC:=vZ W1,ops2:=vZ W2,l2:=(vZ W2).toList.dropLast,cnd:=condC (fV (fV w)),x0:=arg (jU (fM w) 0).op 0,ch:=We so.op,x:=ajB so.op,aeQ:=RQ (jU (fM w) 0).op,i5:=wo (fM lb),i6:=wo R6,i7:=wo R7,i8:=wo R8,i9:=wo (fV l2),i10:=wo (fM (fV r4)),BQ:=IC blk,qE:=IC (fM l2),ops5:=vZ (fM lb),ops9:=vZ (fV l2),o6m:=jU R6 0,o6a:=jU R6 1,o6s:=jU R6 2,o7:=jU R7 0,X9:=jU R8 0,X8:=jU R8 1,TI:=jU (fM (fV r4)) 0,c5:=condC (fM (fV lb)),tid:=Ls (jU R6 1).op,ti:=Yo P (Ls (jU R6 1).op),z0:=zOf P (Ls (jU R6 1).op),u0:=(zOf P (Ls (jU R6 1).op)).cells[0]?.getD default,d8:=Ad (jU R6 1),d22:=Ad (jU R7 0),d23:=Ad (jU R8 0),y6:=We (jU R6 2).op,xA:=arg (jU R7 0).op 0,xW:=arg (jU (fM (fV r4)) 0).op 0,caps:=aiJ (jU R8 0).op,ajb:=RQ (jU R7 0).op,aja:=RQ (jU R8 1).op,aeP:=RQ (jU (fM (fV r4)) 0).op}
def ZH(P:aH)(f:aI):Crew.P6:=
 let r5:=fV (fV (fV (fV (fV (FY P f)))))
 let r8:=fV (fV (fV r5))
 let blk:=fV (fM r8)
 let lb:=V9 (Uo blk)
 let R14:=fM lb
 let l1:=fV lb
 let jW:=Uo (fV l1)
 let R15:=fM jW
 let R16:=fV jW
 {i14:=wo R14,i15:=wo R15,i16:=wo R16,aeL:=IC blk,akF:=IC (fV l1),Fz:=jU R14 0,H6:=jU R14 1,VX:=vZ R15,o31:=jU R16 0,o32:=jU R16 1,o33:=jU R16 2,o34:=jU R16 3,o35:=jU R16 4,o36:=jU R16 5,c29:=condC (fM l1),fL:=aeI (jU R16 2).op,d9:=Ad (jU R16 5),d28:=Ad (jU R14 0),d31:=Ad (jU R16 0),d33:=Ad (jU R16 2),d34:=Ad (jU R16 3),d35:=Ad (jU R16 4),x32:=arg (jU R16 2).op 0,WW:=We (jU R14 0).op,tch:=Ls (jU R14 0).op,WN:=chE (under P (Ls (jU R14 0).op)),dch:=chD (under P (Ls (jU R14 0).op)),zch:=zOf P (chE (under P (Ls (jU R14 0).op))),ts:=Ls (jU R16 3).op,el:=chE (under P (Ls (jU R16 3).op)),ti:=Yo P (chE (under P (Ls (jU R16 3).op))),z:=zOf P (chE (under P (Ls (jU R16 3).op))),ahL:=RQ (jU R16 2).op}
def aj6(P:aH)(Lk:WgLink)(f:aI):Crew.Qc:=
 let c:=FY P f
 let r2:=fV (fV c)
 let R2:=fM r2
 let r3:=fV r2
 let r4:=fV r3
 let r5:=fV r4
 let r6:=fV r5
 let r7:=fV r6
 let r8:=fV r7
 {fn:=aea P f,cw:=aky P f,rc:=ZH P f,c0:=fM c,c1:=fM (fV c),i2:=wo R2,i3:=wo (fM r3),i11:=wo (fM r6),o2m:=jU R2 0,o2c:=jU R2 1,o2a:=jU R2 2,o2s:=jU R2 3,o3:=jU (fM r3) 0,c4:=fM (fM r4),TG:=jU (fM r6) 0,N8:=jU (fM r6) 1,c12:=fM r7,c13:=fM (fM r8),c17:=fV r8,aaM:=We (jU R2 1).op,tel:=Yo P (ZH P f).WN,d17:=Ad (jU R2 1),d7:=Ad (jU (fM r3) 0),zg:=zOf P Lk.tWg,d25:=Ad (jU (fM r5) 0),d26:=afw (arg (jU (fM r6) 1).op 0),d27:=afw (ZH P f).WW,aeO:=RQ (jU (fM r6) 1).op,iT:=chE (under P (ZH P f).el)}
end Go.Inst
