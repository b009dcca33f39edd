import Derived.StillTailTactics
import Derived.Test.YtjilljfmaknihaaGreatA50
set_option linter.all false
set_option maxHeartbeats 16000000
set_option maxRecDepth 100000
namespace Go
def rQ:=@Go.Calls.mono
end Go
namespace Go.Proofs
open Go.RowKit Go.Shelf
section
attribute [local go_sem] nz
def H5(os:List Int)(k:Nat):Int:=os.getD k 0
def Ik(fs:List Int):Int:=fs.foldl (fun g x=>orB g x.toNat) 0
def heap_set{w:ay}{b j:Nat}{c:Array ae}{t:aZ}{fr:Nat×Nat}(h:w.heap[b]?=some (.cells c t fr))(v:ae):(w.setCell ⟨b,j,none⟩ v).heap[b]?=some (.cells (c.setIfInBounds j v) t fr):=by simp[World.setCell,PI,h]
def Tryz.aiZ(W)(B)(e n g)(ao)(ko)(os)(hm:os.length<=3)(hB:W.heap[B]?=some (.cells #[.int .i64 e,.int .i64 n,.int .i64 0,.int .i64 0,.int .i64 0,.int .u8 g] 92 (0,0)))(ho:ED W ao os):∃W',(Builtin.copy_ #[28,28] 3 #[.slice (some ⟨B,2,none⟩) 3 3,.slice ao os.length ko]).run Tryz.prog W=.ok (goInt os.length) W'/\W'.heap[B]?=some (.cells #[.int .i64 e,.int .i64 n,.int .i64 (H5 os 0),.int .i64 (H5 os 1),.int .i64 (H5 os 2),.int .u8 g] 92 (0,0))/\dm B W W':=by
 have hu:=Tryz.underlying28;have hs:(Tryz.prog.info? 3).map (·.size)=some 1:=by kernel_rfl
 by_cases h0:os.length=0
 .obtain rfl:os=[]:=by simpa using h0
  exact⟨W,run_copy_none W _ _ _ _ _ _ _ _ _ _ hu hs rfl,hB,⟨PN _ _,id⟩⟩
 obtain⟨b,of,rfl,_,_⟩:=ho 0 (by omega);have hsrc:∀j v,(os.map (Value.int .i64))[j]?=some v->W.cell? ((⟨b,of,none⟩:Addr).add j)=some v:=fun j v hv=>by
  rw[Y7] at hv;obtain⟨x,hx,rfl⟩:=BX.1 hv;obtain⟨hj,rfl⟩:=yB.1 hx;have⟨b',o',hbo,_,hc⟩:=ho j hj;cases hbo;have hadd:(⟨b,of,none⟩:Addr).add j=⟨b,of+j,none⟩:=by unfold Addr.add;split<;>simp_all
  rw[hadd];exact hc
 have hcell:∀j,j<os.length->(W.cell? ⟨B,2+j,none⟩).isSome=true:=fun j hj=>by
  rw[ah hB];have:j<3:=by omega
  match j,this with
  |0,_|1,_|2,_=>rfl
 refine⟨_,by have:=run_copy_cells W 28 28 3 3 B 2 3 3 ⟨b,of,none⟩ os.length ko (os.map (Value.int .i64)) hu hs (by rw[UA];exact(Nat.min_eq_left hm).symm) hsrc (fun j hj=>hcell j (by simpa using hj)) (fun j _=>iJ hB _) (fun v hv=>by obtain⟨x,_,rfl⟩:=oZ.1 hv;rfl);rwa[UA] at this,?_,?_⟩
 .match os,hm,h0 with
  |[a],_,_=>exact heap_set hB _
  |[a,c],_,_=>exact heap_set (heap_set hB _) _
  |[a,c,d],_,_=>exact heap_set (heap_set (heap_set hB _) _) _
 match os,hm,h0 with
 |[a],_,_=>exact dm.zo (aA B) _
 |[a,c],_,_=>exact(dm.zo (aA B) _).trans (dm.zo (aA B) _)
 |[a,c,d],_,_=>exact((dm.zo (aA B) _).trans (dm.zo (aA B) _)).trans (dm.zo (aA B) _)
def Tryz.agc(e n)(ao af)(ko kf)(os fs)(w:ay)(hm:os.length<=3)(hmf:fs.length<=5)(hfs:∀x∈fs,0<=x/\x<=4)(ho:ED w ao os)(hf:ED w af fs):Calls Tryz.prog 46 #[.agg #[.int .i64 e,.int .i64 n,.slice ao os.length ko,.slice af fs.length kf]] w fun en w'=>en=.returned (.agg #[.int .i64 e,.int .i64 n,.int .i64 (H5 os 0),.int .i64 (H5 os 1),.int .i64 (H5 os 2),.int .u8 (Ik fs)])/\Fin w w':=by
 have HO:=az (And.intro ho hf);clear ho hf;have z1:=@Y6;have z2:=@Tryz.zeroValue92;go_enter Tryz.func46,Tryz.ntmps46;go_wp2;obtain⟨W0,hW0⟩:∃W0,(((w.alloc (.cells #[.int .i64 e,.int .i64 n,.slice ao os.length ko,.slice af fs.length kf] 30)).alloc (.cells #[.int .i64 0,.int .i64 0,.int .i64 0,.int .i64 0,.int .i64 0,.int .u8 0] 92)).alloc (.cells #[.int .i64 e,.int .i64 n,.int .i64 0,.int .i64 0,.int .i64 0,.int .u8 0] 92))=W0:=⟨_,rfl⟩;have hs0:W0.heap.size=w.heap.size+3:=by rw[<-hW0];simp
 have hF0:Fin w W0:=hW0▸(((Fin.refl _).alloc _ _).alloc _ _).alloc _ _;have hB0:W0.heap[w.heap.size]?=some (.cells #[.int .i64 e,.int .i64 n,.slice ao os.length ko,.slice af fs.length kf] 30 (0,0)):=by rw[<-hW0];exact(iV _ _ _ (by simp<;>omega)).trans ((iV _ _ _ (by simp<;>omega)).trans (iq w _))
 have hB1:W0.heap[w.heap.size+1]?=some (.cells #[.int .i64 0,.int .i64 0,.int .i64 0,.int .i64 0,.int .i64 0,.int .u8 0] 92 (0,0)):=by rw[<-hW0];refine(iV _ _ _ (by simp<;>omega)).trans ?_;have:=iq (w.alloc (.cells #[.int .i64 e,.int .i64 n,.slice ao os.length ko,.slice af fs.length kf] 30)) (.cells #[.int .i64 0,.int .i64 0,.int .i64 0,.int .i64 0,.int .i64 0,.int .u8 0] 92);rwa[lZ] at this
 have hB2:W0.heap[w.heap.size+1+1]?=some (.cells #[.int .i64 e,.int .i64 n,.int .i64 0,.int .i64 0,.int .i64 0,.int .u8 0] 92 (0,0)):=by rw[<-hW0];have:=iq ((w.alloc (.cells #[.int .i64 e,.int .i64 n,.slice ao os.length ko,.slice af fs.length kf] 30)).alloc (.cells #[.int .i64 0,.int .i64 0,.int .i64 0,.int .i64 0,.int .i64 0,.int .u8 0] 92)) (.cells #[.int .i64 e,.int .i64 n,.int .i64 0,.int .i64 0,.int .i64 0,.int .u8 0] 92);rwa[lZ,lZ] at this
 rw[hW0];clear hW0;have hD:Fin W0 W0.drew:=(Fin.refl _).drew;have⟨W1,hcp,hX1,hst⟩:=Tryz.aiZ W0.drew (w.heap.size+1+1) e n 0 ao ko os hm hB2 (HO.out.1.fin (hF0.trans hD));have a0:=ah hB0 0;have a1:=ah hB0 1;have a2:=ah hB0 2;have a3:=ah hB0 3;simp at a0 a1 a2 a3;have hC0:=(hst.below.block _ (show w.heap.size<w.heap.size+1+1 by omega)).trans hB0;have hC1:=(hst.below.block _ (show w.heap.size+1<w.heap.size+1+1 by omega)).trans hB1;have hF1:dm w.heap.size w W1:=(hF0.trans hD).step.trans (hst.mono (by omega));have HB:=az (And.intro hC0 (And.intro hC1 (And.intro hX1 hF1)));clear hB0 hB1 hB2 hC0 hC1 hX1 hF1 hst hF0 hD;go_still_tail 5,(by kernel_rfl);change wpList _ _ _ _ _ W0.drew;generalize W0.drew=Wd at hcp;have b3:=ah HB.out.1 3;simp at b3;clear z1 z2;go_wp2;clear a0 a1 a2 a3 hcp b3 hs0;go_loopw [19] (fun v wr=>∃k:Nat,k<=fs.length/\v=.int .i64 k/\wr.heap[w.heap.size+1+1]?=some (.cells #[.int .i64 e,.int .i64 n,.int .i64 (H5 os 0),.int .i64 (H5 os 1),.int .i64 (H5 os 2),.int .u8 (Ik (fs.take k))] 92 (0,0))/\wr.heap[w.heap.size+1]?=some (.cells #[.int .i64 0,.int .i64 0,.int .i64 0,.int .i64 0,.int .i64 0,.int .u8 0] 92 (0,0))/\dm w.heap.size w wr) (fun v _=>fs.length-(intOf v).toNat);case atStart=>exact⟨0,gy _,rfl,HB.out.2.2.1,HB.out.2.1,HB.out.2.2.2⟩
 case round=>
  obtain⟨k,hk,rfl,hx,hz,hst⟩:=hrel;have x0:=ah hx 0;have x1:=ah hx 1;have x2:=ah hx 2;have x3:=ah hx 3;have x4:=ah hx 4;have x5:=ah hx 5;have z0:=ah hz 0;have z1:=ah hz 1;have z2:=ah hz 2;have z3:=ah hz 3;have z4:=ah hz 4;have z5:=ah hz 5;have f5:=iJ hx 5;have g0:=iJ hz 0;have g1:=iJ hz 1;have g2:=iJ hz 2;have g3:=iJ hz 3;have g4:=iJ hz 4;have g5:=iJ hz 5;simp at x0 x1 x2 x3 x4 x5 z0 z1 z2 z3 z4 z5;by_cases hlt:k<fs.length
  .obtain⟨b,of,rfl,hb,e0⟩:=HO.out.2.fin hst.fin k hlt;have hbd:=hfs _ (xJ hlt);have hnext:Ik (fs.take (k+1))=orB (Ik (fs.take k)) fs[k].toNat:=by
    unfold Ik;rw[Y5,oV hlt,List.foldl_append];rfl
   generalize hxk:fs[k]=x at e0 hbd hnext;obtain⟨c,rfl⟩:=UD hbd.1;have HN:=az hnext;have HX:=az (And.intro hx (And.intro hz hst));clear hxk hnext hx hz hst;go_wp2_with (go_at_call 84;refine(Tryz.Zp _ _ (by omega) _).mono ?_;rintro e' w' ⟨rfl,rfl⟩);go_roundw;case rel=>exact⟨k+1,hlt,by go_num,by rw[HN.out];exact heap_set HX.out.1 _,(Bo _ _ _ _ (by simp)).trans HX.out.2.1,HX.out.2.2.trans (dm.zo (by simp;omega) _)⟩
   case measure=>simp[intOf];omega
  have hk':k=fs.length:=by omega
  subst hk';have HX:=az (And.intro hx (And.intro hz hst));clear hx hz hst;go_wp2;have hend:=heap_set (j:=5) (heap_set (j:=4) (heap_set (j:=3) (heap_set (j:=2) (heap_set (j:=1) (heap_set (j:=0) HX.out.2.1 (.int .i64 e)) (.int .i64 n)) (.int .i64 (H5 os 0))) (.int .i64 (H5 os 1))) (.int .i64 (H5 os 2))) (.int .u8 (Ik fs));have hle:∀j,w.heap.size<=(⟨w.heap.size+1,j,none⟩:Addr).block:=fun j=>by simp
  refine⟨rfl,.agg #[.int .i64 e,.int .i64 n,.int .i64 (H5 os 0),.int .i64 (H5 os 1),.int .i64 (H5 os 2),.int .u8 (Ik fs)],?_,rfl,((((((HX.out.2.2.trans (dm.zo (hle 0) _)).trans (dm.zo (hle 1) _)).trans (dm.zo (hle 2) _)).trans (dm.zo (hle 3) _)).trans (dm.zo (hle 4) _)).trans (dm.zo (hle 5) _)).fin⟩;have q0:=ah hend 0;have q1:=ah hend 1;have q2:=ah hend 2;have q3:=ah hend 3;have q4:=ah hend 4;have q5:=ah hend 5;simp at q0 q1 q2 q3 q4 q5;simp[results,Tryz.f46,go_sem,q0,q1,q2,q3,q4,q5]
end
def yx{α:Type}{f:α->Int}:∀{l:List α},jr f l=0->∀x∈l,f x=0
|[],_,x,hx=>by simp at hx
|y::l,h,x,hx=>by
 simp only[jr] at h;by_cases hy:f y=0
 .rw[aY hy] at h;rcases dW.1 hx with rfl|hx
  .exact hy
  exact yx h x hx
 rw[aU hy] at h;exact absurd h hy
def qx{n a b}:jW n a b=true↔a<=n/\n<=b:=by simp[jW]
def age{r}:U7 r=true↔((-3<=r.1/\r.1<=r.2)/\r.2<=3)/\r.2-r.1<3:=by simp[U7,yc,ui]
structure Good(W H F:Int)(cs:List (Int×Int))(ws:List IZ):Prop where
 hw:2<=W/\W<=7
 hh:2<=H/\H<=7
 hf:0<=F/\F<=2
 hm:1<=cs.length/\cs.length<=3
 hcs:∀r∈cs,-3<=r.1/\r.1<=r.2/\r.2<=3
 hn:ws.length<=5
 hok:∀x∈ws,okW x
def O9{W H F cs ws}(h:chk W H F cs ws=0):Good W H F cs ws:=by
 unfold chk at h;split at h<;>try (exact absurd h (by decide))
 rename_i h1;split at h<;>try (exact absurd h (by decide))
 rename_i h2;split at h<;>try (exact absurd h (by decide))
 rename_i h3;split at h<;>try (exact absurd h (by decide))
 rename_i h4;simp only[LJ,aT,qx] at h1;rw[qx] at h2;refine⟨h1.1.1,h1.1.2,h1.2,by omega,fun r hr=>?_,by omega,fun x hx=>?_⟩
 .have:=age.1 (bZ.1 h3 r hr);omega
 have hw:=yx h x hx;unfold ug at hw;split at hw<;>try (exact absurd hw (by decide))
 rename_i h5;split at hw<;>try (exact absurd hw (by decide))
 rename_i h6;simp only[jq,aT,qx] at h5;rw[qx] at h6;exact⟨⟨h5.1.1.1,h5.1.1.2,h5.1.2.1,h5.1.2.2⟩,h5.2.1,h5.2.2,h6.1,by omega⟩
structure akQ(W H:Int)(nc nw:Nat)(e n:Int)(os fs:List Int):Prop where
 he:0<=e/\e<=W-1
 hn:0<=n/\n<=H-1
 hm:os.length=nc
 off:∀x∈os,-3<=x/\x<=3
 hasc:Uu nw fs=0
 hfs:∀x∈fs,0<=x/\x<=(nw:Int)-1
 hmf:fs.length<=nw
def ad3{l k}(h:k<l.length):gI l k=l[k]:=by unfold gI;simp[List.getD,oV h]
def Pv{nw:Nat}{l:List Int}(h:Uu nw l=0){k:Nat}(hk:k<l.length):(0<=gI l k/\gI l k<=(nw:Int)-1)/\¬(0<k/\gI l k<=gI l (k-1)):=by
 have:=yx h k (fK.2 hk);unfold vC at this
 split at this<;>try (exact absurd this (by decide))
 rename_i h1;split at this<;>try (exact absurd this (by decide))
 rename_i h2;exact⟨qx.1 h1,h2⟩
def aeS{nw:Nat}{l:List Int}(h:Uu nw l=0):∀k,k<l.length->(k:Int)<=gI l k
|0,hk=>(Pv h hk).1.1
|k+1,hk=>by have h1:=aeS h k (by omega);have h2:=(Pv h hk).2;simp only[Nat.add_sub_cancel] at h2;have:¬gI l (k+1)<=gI l k:=fun hh=>h2 ⟨by omega,hh⟩;omega
def Pj{W H nc nw}{e n:Int}{os fs:List Int}(h:xQ W H nc nw e n os fs=0):akQ W H nc nw e n os fs:=by
 unfold xQ at h;split at h<;>try (exact absurd h (by decide))
 rename_i h1;split at h<;>try (exact absurd h (by decide))
 rename_i h2;split at h<;>try (exact absurd h (by decide))
 rename_i h3;simp only[ZP,aT,qx] at h1;refine⟨h1.1,h1.2,h2,fun x hx=>qx.1 (bZ.1 h3 x hx),h,fun x hx=>?_,?_⟩
 .obtain⟨k,hk,rfl⟩:=List.getElem_of_mem hx;have:=(Pv h hk).1;rwa[ad3 hk] at this
 by_cases h0:fs.length=0
 .omega
 have h1:=aeS h (fs.length-1) (by omega);have h2:=(Pv h (k:=fs.length-1) (by omega)).1.2;omega
def KA{w b t v}{gs:List Nat}(h:w.ownsRow b t 1 v gs.length (gs.map u8v)):∃a c,v=.slice a (gs.map (fun(g:Nat)=>(g:Int))).length c/\RdU w a (gs.map (fun(g:Nat)=>(g:Int)))/\∀g o,a=some ⟨g,o,none⟩->g<w.heap.size:=by
 rcases h with⟨hl,⟨rfl,hn⟩|⟨g,cap,cur,rfl,hb,hg,hc,hm,hs,ht⟩⟩
 .refine⟨none,0,by simp[hn],fun i hi=>?_,fun _ _ h=>by cases h⟩;simp at hi;omega
 have hlt:=(aP.1 hg).1;refine⟨some ⟨g,0,none⟩,cap,by simp,fun i hi=>⟨g,0,rfl,hlt,?_⟩,fun b o h=>by cases h;exact hlt⟩;have hi':i<gs.length:=by simpa using hi
 have h1:(List.take (gs.length*1) cur.toList)[i]?=some (u8v gs[i]):=by rw[ht];simp[hi']
 rw[JJ,List.getElem?_take_of_lt hi'] at h1;rw[World.cell?,hg];simpa[u8v] using h1
section
attribute [local go_sem] nz
def abO(F:Int)(ws:List IZ):List Int:=(SI (grp (kU ws) ws.length) F (2 ^ ws.length)).map (fun(g:Nat)=>(g:Int))
def ad1{F ws}(h:ws.length<=5):(abO F ws).length<=32:=by unfold abO SI;rw[UA];refine bM (UO _ _) ?_;rw[List.length_range];exact Nat.pow_le_pow_right (by decide) h
def aeJ(w:ay)(X:Obj)(v0 v1 v2 v3:ae)(t:aZ):w.heap.size+1<((w.alloc X).alloc (.cells #[v0,v1,v2,v3] t)).heap.size/\((w.alloc X).alloc (.cells #[v0,v1,v2,v3] t)).heap[w.heap.size+1]?=some (.cells #[v0,v1,v2,v3] t (0,0)):=by refine⟨by simp,?_⟩;have:=iq (w.alloc X) (.cells #[v0,v1,v2,v3] t);rwa[lZ] at this
structure Two(w w2:ay)(B:Nat)(c:Array ae)(v0 v1 v2 v3:ae)(t t6:aZ):Prop where
 fin:Fin w w2
 YU:w2.heap[w.heap.size+1]?=some (.cells #[v0,v1,v2,v3] t (0,0))
 chk:w2.heap[B]?=some (.cells c t6 (0,0))
def Two.mk1{w w1 X v0 v1 v2 v3 t t6 c}(hX:Fin w (w.alloc X))(hF:Fin ((w.alloc X).alloc (.cells #[v0,v1,v2,v3] t)) w1):Two w (w1.alloc (.cells c t6)) w1.heap.size c v0 v1 v2 v3 t t6:=by have⟨hl,hb⟩:=aeJ w X v0 v1 v2 v3 t;refine⟨((hX.alloc _ _).trans hF).alloc _ _,?_,iq w1 _⟩;exact(iV _ _ _ (bT hl hF.below.size)).trans ((hF.below.block _ hl).trans hb)
def akz{w w1:ay}{X:Obj}{v0 v1 v2 v3:ae}{t:aZ}(hF:Fin ((w.alloc X).alloc (.cells #[v0,v1,v2,v3] t)) w1):w.heap.size+1<w1.heap.size/\w1.cell? ⟨w.heap.size+1,0,none⟩=some v0/\w1.cell? ⟨w.heap.size+1,1,none⟩=some v1/\w1.cell? ⟨w.heap.size+1,2,none⟩=some v2/\w1.cell? ⟨w.heap.size+1,3,none⟩=some v3:=by have⟨hl,hb⟩:=aeJ w X v0 v1 v2 v3 t;have h1:=(hF.below.block _ hl).trans hb;exact⟨bT hl hF.below.size,ah h1 0,ah h1 1,ah h1 2,ah h1 3⟩
def Two.go{w w2 w3 B v0 v1 v2 v3 t t6 c}(h:Two w w2 B c v0 v1 v2 v3 t t6)(hF:Fin w2 w3):Two w w3 B c v0 v1 v2 v3 t t6:=⟨h.fin.trans hF,(hF.below.block _ (aP.1 h.YU).1).trans h.YU,(hF.below.block _ (aP.1 h.chk).1).trans h.chk⟩
def isV(W H F:Int)(cs:List (Int×Int))(ws:List IZ)(e n:Int)(os fs:List Int):Bool×Int:=if chk W H F cs ws=0 then(if xQ W H cs.length ws.length e n os fs=0 then(isB W.toNat H.toNat cs ws (abO F ws) e n (H5 os) (Ik fs),0) else(false,xQ W H cs.length ws.length e n os fs)) else(false,chk W H F cs ws)
def Tryz.ajh(W H F e n)(ac aw ao af)(kc kw ko kf)(cs)(ws:List IZ)(os fs:List Int)(w:ay)(hmc:cs.length<=9223372036854775807)(hmw:ws.length<=9223372036854775807)(hmo:os.length<=9223372036854775807)(hmf:fs.length<=9223372036854775807)(hc:Lp w ac cs)(hw:LM w aw ws)(ho:ED w ao os)(hf:ED w af fs)(hac:∀b o,ac=some ⟨b,o,none⟩->b<w.heap.size):Calls Tryz.prog 10 #[.agg #[.int .i64 W,.int .i64 H,.int .i64 F,.slice ac cs.length kc,.slice aw ws.length kw],.agg #[.int .i64 e,.int .i64 n,.slice ao os.length ko,.slice af fs.length kf]] w fun en w'=>en=.returned (.tuple #[.bool (isV W H F cs ws e n os fs).1,.int .i64 (isV W H F cs ws e n os fs).2])/\Fin w w':=by
 have HR:=az (And.intro hc (And.intro hw (And.intro ho (And.intro hf hac))));clear hc hw ho hf hac;by_cases hz:chk W H F cs ws=0
 .have hg:=O9 hz;obtain⟨W,rfl⟩:∃k:Nat,W=k:=⟨W.toNat,by have:=hg.hw;omega⟩;obtain⟨H,rfl⟩:∃k:Nat,H=k:=⟨H.toNat,by have:=hg.hh;omega⟩;have HZ:=az (And.intro hz hg);clear hg;by_cases hz2:xQ W H cs.length ws.length e n os fs=0
  .go_enter Tryz.func10,Tryz.ntmps10
   go_wp2_with (first|(go_at_call 43;refine(Tryz.check W H F ac aw kc kw cs ws _ hmc hmw (HR.out.1.fin (((Fin.refl _).alloc _ _).alloc _ _)) (HR.out.2.1.fin (((Fin.refl _).alloc _ _).alloc _ _))).mono ?_;rintro en w1 ⟨hF1,h1,h2⟩;obtain⟨v,rfl,hown⟩:=h2 hz;obtain⟨gs,hgs,au,ku,hv,hru,hau⟩:∃gs,abO F ws=gs/\∃a c,v=.slice a gs.length c/\RdU w1 a gs/\∀g o,a=some ⟨g,o,none⟩->g<w1.heap.size:=⟨_,rfl,KA hown⟩;subst hv;have⟨hl1,y0,y1,y2,y3⟩:=akz hF1;have HGS:=az hgs;have HU:=az (And.intro hru hau);have HT:=az (Two.mk1 (c:=#[.int .i64 W,.int .i64 H,.int .i64 F,.slice ac cs.length kc,.slice aw ws.length kw,.slice au gs.length ku]) (t6:=81) ((Fin.refl w).alloc _ _) hF1);have HF1:=az hF1;clear h1 h2 hown hru hau hF1 hgs)|(go_at_call 44;refine(Tryz.RN W H F e n ac aw ao af cs.length kc ws.length kw ko kf os fs _ HZ.out.2.hw.1 HZ.out.2.hw.2 HZ.out.2.hh.1 HZ.out.2.hh.2 HZ.out.2.hm.2 HZ.out.2.hn hmo hmf (HR.out.2.2.1.fin HT.out.fin) (HR.out.2.2.2.1.fin HT.out.fin)).mono ?_;rintro en w2 ⟨rfl,hF2⟩))
   have hgc:=Pj hz2;have HZ2:=az hz2;have HT2:=az (HT.out.go hF2);have HFa:=az (((Fin.refl w1).alloc #[.int .i64 W,.int .i64 H,.int .i64 F,.slice ac cs.length kc,.slice aw ws.length kw,.slice au gs.length ku] 81).trans hF2);have c0:=ah HT2.out.chk 0;have c1:=ah HT2.out.chk 1;have c2:=ah HT2.out.chk 2;have c3:=ah HT2.out.chk 3;have c4:=ah HT2.out.chk 4;have c5:=ah HT2.out.chk 5;have d0:=ah HT2.out.YU 0;have d1:=ah HT2.out.YU 1;have d2:=ah HT2.out.YU 2;have d3:=ah HT2.out.YU 3;simp at c0 c1 c2 c3 c4 c5 d0 d1 d2 d3;have HG:=az hgc;have hm3:os.length<=3:=by have:=hgc.hm;have:=HZ.out.2.hm;omega
   have hm5:fs.length<=5:=by have:=hgc.hmf;have:=HZ.out.2.hn;omega
   have hbd:∀x∈fs,0<=x/\x<=4:=fun x hx=>by have:=hgc.hfs x hx;have:=HZ.out.2.hn;omega
   have hW7:W<=7:=by have:=HZ.out.2.hw;omega
   have hH7:H<=7:=by have:=HZ.out.2.hh;omega
   have hen:0<=e/\e<=6/\0<=n/\n<=6:=by have:=hgc.he;have:=hgc.hn;have:=HZ.out.2.hw;have:=HZ.out.2.hh;omega
   have hg32:gs.length<=32:=by rw[<-HGS.out];exact ad1 HZ.out.2.hn
   have hsz:w.heap.size+1<w2.heap.size/\w1.heap.size<w2.heap.size:=⟨(aP.1 HT2.out.YU).1,(aP.1 HT2.out.chk).1⟩;have HBD:=az hbd;have HEN:=az (And.intro hm3 (And.intro hm5 (And.intro hW7 (And.intro hH7 (And.intro hen (And.intro hg32 hsz))))));clear hgc hm3 hm5 hbd hW7 hH7 hen hg32 hsz hF2 y0 y1 y2 y3 HF1 HT hz hz2;go_region_held3 (fun w'=>Fin w2 w'/\w'.cell? ⟨w1.heap.size,0,none⟩=some (.int .i64 W)/\w'.cell? ⟨w1.heap.size,1,none⟩=some (.int .i64 H)/\w'.cell? ⟨w1.heap.size,2,none⟩=some (.int .i64 F)/\w'.cell? ⟨w1.heap.size,3,none⟩=some (.slice ac cs.length kc)/\w'.cell? ⟨w1.heap.size,4,none⟩=some (.slice aw ws.length kw)/\w'.cell? ⟨w1.heap.size,5,none⟩=some (.slice au gs.length ku)/\w'.cell? ⟨w.heap.size+1,0,none⟩=some (.int .i64 e)/\w'.cell? ⟨w.heap.size+1,1,none⟩=some (.int .i64 n)/\w'.cell? ⟨w.heap.size+1,2,none⟩=some (.slice ao os.length ko)/\w'.cell? ⟨w.heap.size+1,3,none⟩=some (.slice af fs.length kf))
    (first|(refine⟨?_,?_,?_,?_,?_,?_,?_,?_,?_,?_,?_⟩<;>first|assumption|exact Fin.refl _|exact(Fin.refl _).drew))
    (first|(go_at_call 46;refine(Tryz.agc e n ao af ko kf os fs _ HEN.out.1 HEN.out.2.1 HBD.out (HR.out.2.2.1.fin (HT2.out.fin.trans (by first|assumption|exact(Fin.refl _).drew|exact Fin.refl _))) (HR.out.2.2.2.1.fin (HT2.out.fin.trans (by first|assumption|exact(Fin.refl _).drew|exact Fin.refl _)))).mono ?_;rintro x w3 ⟨rfl,hF3⟩;have hA:Fin w2 w3:=Fin.trans (by first|assumption|exact(Fin.refl _).drew|exact Fin.refl _) hF3;have T3:=HT2.out.go hA;have c0:=ah T3.chk 0;have c1:=ah T3.chk 1;have c2:=ah T3.chk 2;have c3:=ah T3.chk 3;have c4:=ah T3.chk 4;have c5:=ah T3.chk 5;have d0:=ah T3.YU 0;have d1:=ah T3.YU 1;have d2:=ah T3.YU 2;have d3:=ah T3.YU 3;simp at c0 c1 c2 c3 c4 c5 d0 d1 d2 d3;clear T3 hF3)|(go_at_call 45;refine(UC.1 (Tryz.agv W H F e n (Ik fs) ac aw au kc kw ku cs ws gs (H5 os) _ HEN.out.2.2.1 HEN.out.2.2.2.1 HZ.out.2.hm.2 HZ.out.2.hcs (HR.out.1.fin (HT2.out.fin.trans (by first|assumption|exact(Fin.refl _).drew|exact Fin.refl _))) (fun b o h=>bT (HR.out.2.2.2.2 b o h) (HT2.out.fin.trans (by first|assumption|exact(Fin.refl _).drew|exact Fin.refl _)).below.size) HZ.out.2.hn HZ.out.2.hok (HR.out.2.1.fin (HT2.out.fin.trans (by first|assumption|exact(Fin.refl _).drew|exact Fin.refl _))) HEN.out.2.2.2.2.2.1 (HU.out.1.fin (HFa.out.trans (by first|assumption|exact(Fin.refl _).drew|exact Fin.refl _))) (fun b o h=>bT (HU.out.2 b o h) (HFa.out.trans (by first|assumption|exact(Fin.refl _).drew|exact Fin.refl _)).below.size) HEN.out.2.2.2.2.1)).mono ?_;rintro x w3 ⟨rfl,hF3⟩;have hA:Fin w2 w3:=Fin.trans (by first|assumption|exact(Fin.refl _).drew|exact Fin.refl _) hF3;have T3:=HT2.out.go hA;have c0:=ah T3.chk 0;have c1:=ah T3.chk 1;have c2:=ah T3.chk 2;have c3:=ah T3.chk 3;have c4:=ah T3.chk 4;have c5:=ah T3.chk 5;have d0:=ah T3.YU 0;have d1:=ah T3.YU 1;have d2:=ah T3.YU 2;have d3:=ah T3.YU 3;simp at c0 c1 c2 c3 c4 c5 d0 d1 d2 d3;clear T3 hF3))
   go_wp2;refine Bq (v:=.tuple #[.bool (isB W H cs ws gs e n (H5 os) (Ik fs)),.int .i64 0]) (by simp[results,Tryz.results10,go_sem]) rfl ⟨?_,HT2.out.fin.trans hA⟩;unfold isV;rw[aY HZ.out.1,aY HZ2.out,HGS.out];rfl
  have hne2:(xQ W H cs.length ws.length e n os fs==0)=false:=by simpa using hz2
  have HZ2:=az hz2;clear hz2;go_enter Tryz.func10,Tryz.ntmps10;go_wp2_with (first|(go_at_call 43;refine(Tryz.check W H F ac aw kc kw cs ws _ hmc hmw (HR.out.1.fin (((Fin.refl _).alloc _ _).alloc _ _)) (HR.out.2.1.fin (((Fin.refl _).alloc _ _).alloc _ _))).mono ?_;rintro en w1 ⟨hF1,h1,h2⟩;obtain⟨v,rfl,hown⟩:=h2 hz;obtain⟨gs,hgs,au,ku,hv,hru,hau⟩:∃gs,abO F ws=gs/\∃a c,v=.slice a gs.length c/\RdU w1 a gs/\∀g o,a=some ⟨g,o,none⟩->g<w1.heap.size:=⟨_,rfl,KA hown⟩;subst hv;have⟨hl1,y0,y1,y2,y3⟩:=akz hF1;have HGS:=az hgs;have HU:=az (And.intro hru hau);have HT:=az (Two.mk1 (c:=#[.int .i64 W,.int .i64 H,.int .i64 F,.slice ac cs.length kc,.slice aw ws.length kw,.slice au gs.length ku]) (t6:=81) ((Fin.refl w).alloc _ _) hF1);have HF1:=az hF1;clear h1 h2 hown hru hau hF1 hgs)|(go_at_call 44;refine(Tryz.RN W H F e n ac aw ao af cs.length kc ws.length kw ko kf os fs _ HZ.out.2.hw.1 HZ.out.2.hw.2 HZ.out.2.hh.1 HZ.out.2.hh.2 HZ.out.2.hm.2 HZ.out.2.hn hmo hmf (HR.out.2.2.1.fin HT.out.fin) (HR.out.2.2.2.1.fin HT.out.fin)).mono ?_;rintro en w2 ⟨rfl,hF2⟩))
  refine Bq (v:=.tuple #[.bool false,.int .i64 (xQ W H cs.length ws.length e n os fs)]) (by simp[results,Tryz.results10,go_sem]) rfl ⟨?_,HT.out.fin.trans hF2⟩;unfold isV;rw[aY HZ.out.1,aU HZ2.out]
 have hne:(chk W H F cs ws==0)=false:=by simpa using hz
 go_enter Tryz.func10,Tryz.ntmps10;go_wp2_with (go_at_call 43;refine(Tryz.check W H F ac aw kc kw cs ws _ hmc hmw (HR.out.1.fin (((Fin.refl _).alloc _ _).alloc _ _)) (HR.out.2.1.fin (((Fin.refl _).alloc _ _).alloc _ _))).mono ?_;rintro en w1 ⟨hF1,h1,h2⟩;obtain rfl:=h1 hz;clear h1 h2);have hF:=((((Fin.refl w).alloc _ _).alloc _ _).trans hF1).alloc #[.int .i64 0,.int .i64 0,.int .i64 0,.slice none 0 0,.slice none 0 0,.slice none 0 0] 81;refine Bq (v:=.tuple #[.bool false,.int .i64 (chk W H F cs ws)]) (by simp[results,Tryz.results10,go_sem]) rfl ⟨?_,hF⟩;unfold isV;rw[aU hz]
end
section
attribute [local go_sem] nz
def Tryz.Tu(e n)(b)(hb:jq e n=b)(w):Calls Tryz.prog 39 #[.agg #[.int .i64 e,.int .i64 n]] w fun x w'=>x=.returned (.bool b)/\Fin w w':=(Tryz.place e n w).mono fun x w' h=>by obtain⟨rfl,rfl⟩:=h;exact⟨by rw[<-hb];rfl,(Fin.refl _).alloc _ _⟩
def EF(e n e2 n2:Int):Int×Int:=if jq e n&&jq e2 n2 then(if e=e2/\n=n2 then(0,6) else(uC (e2-e) (n2-n),0)) else(0,1)
def Vl{w w1 a b c d}{t:aZ}(hF:Fin ((w.alloc (.cells #[a,b] t)).alloc (.cells #[c,d] t)) w1):w1.cell? ⟨w.heap.size,0,none⟩=some a/\w1.cell? ⟨w.heap.size,1,none⟩=some b/\w1.cell? ⟨w.heap.size+1,0,none⟩=some c/\w1.cell? ⟨w.heap.size+1,1,none⟩=some d/\Fin w w1:=by
 have h0:((w.alloc (.cells #[a,b] t)).alloc (.cells #[c,d] t)).heap[w.heap.size]?=some (.cells #[a,b] t (0,0)):=(iV _ _ _ (by simp)).trans (iq w _);have h1:((w.alloc (.cells #[a,b] t)).alloc (.cells #[c,d] t)).heap[w.heap.size+1]?=some (.cells #[c,d] t (0,0)):=by have:=iq (w.alloc (.cells #[a,b] t)) (.cells #[c,d] t);rwa[lZ] at this
 have g0:=(hF.below.block _ (aP.1 h0).1).trans h0;have g1:=(hF.below.block _ (aP.1 h1).1).trans h1;exact⟨ah g0 0,ah g0 1,ah g1 0,ah g1 1,(((Fin.refl w).alloc _ _).alloc _ _).trans hF⟩
def Eb{e n}(h:jq e n=true):-20<=e/\e<=20/\-20<=n/\n<=20:=by simp only[jq,aT,qx] at h;exact⟨h.1.1,h.1.2,h.2.1,h.2.2⟩
def Tryz.True(e n e2 n2)(w):Calls Tryz.prog 8 #[.agg #[.int .i64 e,.int .i64 n],.agg #[.int .i64 e2,.int .i64 n2]] w fun x w'=>x=.returned (.tuple #[.int .i64 (EF e n e2 n2).1,.int .i64 (EF e n e2 n2).2])/\Fin w w':=by
 cases p1:jq e n with
 |false=>
  have h1:=fun w=>Tryz.Tu e n false p1 w;go_enter Tryz.func8,Tryz.ntmps8;go_wp2_with (go_at_call 39;with_reducible refine rQ (h1 _) ?_;rintro x w1 ⟨rfl,hF1⟩)
  go_ret2;refine⟨?_,(Vl hF1).2.2.2.2⟩;unfold EF;rw[p1];rfl
 |true=>
  have h1:=fun w=>Tryz.Tu e n true p1 w;cases p2:jq e2 n2 with
  |false=>
  have h2:=fun w=>Tryz.Tu e2 n2 false p2 w;have P:=az (And.intro p1 p2);clear p1 p2;go_enter Tryz.func8,Tryz.ntmps8;go_wp2_with (go_at_call 39;first|(with_reducible refine rQ (h1 _) ?_;rintro x w1 ⟨rfl,hF1⟩;have⟨a0,a1,b0,b1,hF⟩:=Vl hF1)|(with_reducible refine rQ (h2 _) ?_;rintro x w2 ⟨rfl,hF2⟩))
  go_ret2;refine⟨?_,hF.trans hF2⟩;unfold EF;rw[P.out.1,P.out.2];rfl
  |true=>
  have h2:=fun w=>Tryz.Tu e2 n2 true p2 w;have q1:=Eb p1;have q2:=Eb p2;have P:=az (And.intro p1 p2);clear p1 p2;have hT:=fun w=>Tryz.XA e n e2 n2 (by omega) w;clear q1 q2;go_enter Tryz.func8,Tryz.ntmps8;go_wp2_with (first|(go_at_call 39;first|(with_reducible refine rQ (h1 _) ?_;rintro x w1 ⟨rfl,hF1⟩;have⟨a0,a1,b0,b1,hF⟩:=Vl hF1)|(with_reducible refine rQ (h2 _) ?_;rintro x w2 ⟨rfl,hF2⟩;have⟨c0,c1,d0,d1,hG⟩:=Vl (hF1.trans hF2)))|(go_at_call 40;first|(with_reducible refine rQ (hT _) ?_;rintro x w3 ⟨rfl,hF3⟩)|(subst_vars;with_reducible refine rQ (hT _) ?_;rintro x w3 ⟨rfl,hF3⟩)))
  all_goals go_ret2
  .have e1:e=e2:=by assumption
   have e2':n=n2:=by assumption
   refine⟨?_,hG⟩;unfold EF;rw[P.out.1,P.out.2,JH,aY rfl,aY ⟨e1,e2'⟩];rfl
  .refine⟨?_,hG.trans hF3⟩;have e2':¬n=n2:=by assumption
   unfold EF;rw[P.out.1,P.out.2,JH,aY rfl,aU (fun h=>e2' h.2)];simp
  refine⟨?_,hG.trans hF3⟩;have e1:¬e=e2:=by assumption
  unfold EF;rw[P.out.1,P.out.2,JH,aY rfl,aU (fun h=>e1 h.1)];rfl
def Tryz.aji(W H F)(ac aw)(kc kw)(cs)(ws)(w)(hm:cs.length<=9223372036854775807)(hn:ws.length<=9223372036854775807)(hc:Lp w ac cs)(hw:LM w aw ws):Calls Tryz.prog 12 #[.agg #[.int .i64 W,.int .i64 H,.int .i64 F,.slice ac cs.length kc,.slice aw ws.length kw]] w fun en w'=>en=.returned (.int .i64 (chk W H F cs ws))/\Fin w w':=by
 have HR:=az (And.intro hc hw);clear hc hw;by_cases hz:chk W H F cs ws=0
 .go_enter Tryz.func12,Tryz.ntmps12
  go_wp2_with (go_at_call 43;refine(Tryz.check W H F ac aw kc kw cs ws _ hm hn (HR.out.1.fin ((Fin.refl _).alloc _ _)) (HR.out.2.fin ((Fin.refl _).alloc _ _))).mono ?_;rintro en w1 ⟨hF1,h1,h2⟩;obtain⟨v,rfl,hown⟩:=h2 hz;have⟨va,vm,vc,hv⟩:=EM hown;subst hv;clear h1 h2 hown);all_goals go_ret
  all_goals exact⟨by rw[hz];rfl,(((Fin.refl w).alloc _ _).trans hF1).alloc _ _⟩
 go_enter Tryz.func12,Tryz.ntmps12;go_wp2_with (go_at_call 43;refine(Tryz.check W H F ac aw kc kw cs ws _ hm hn (HR.out.1.fin ((Fin.refl _).alloc _ _)) (HR.out.2.fin ((Fin.refl _).alloc _ _))).mono ?_;rintro en w1 ⟨hF1,h1,h2⟩;obtain rfl:=h1 hz;clear h1 h2);all_goals go_ret
 all_goals exact⟨rfl,(((Fin.refl w).alloc _ _).trans hF1).alloc _ _⟩
end
section
attribute [local go_sem] nz
def Tryz.Tj(x y)(h:-40<=x/\x<=40/\-40<=y/\y<=40)(h0:¬(x=0/\y=0))(w):Calls Tryz.prog 42 #[.int .i64 x,.int .i64 y] w fun en w'=>en=.returned (.int .i64 (uC x y))/\w'=w:=by
 have⟨h1,h2,h3,h4⟩:=h;have H0:=az h0;clear h0;go_enter Tryz.func42,Tryz.ntmps42;go_wp2;all_goals go_ret
 all_goals refine⟨?_,rfl⟩
 all_goals have h0:=H0.out
 all_goals show Ending.returned (Value.int IntKind.i64 _)=_
 all_goals refine bU (fun z=>Ending.returned (Value.int IntKind.i64 z)) ?_
 all_goals clear H0
 all_goals simp only[uC,ag5,J4]
 all_goals (repeat' split)
 all_goals first
  |rfl
  |(exfalso;omega)
def ZU(e n)(b)(hb:jq e n=b)(w):Calls Tryz.prog 41 #[.agg #[.int .i64 e,.int .i64 n]] w fun x w'=>x=.returned (.bool b)/\Fin w w':=(Tryz.ahr e n w).mono fun x w' h=>by obtain⟨rfl,hF⟩:=h;exact⟨by rw[<-hb],hF⟩
def Tryz.ajP(e n e2 n2)(w):Calls Tryz.prog 9 #[.agg #[.int .i64 e,.int .i64 n],.agg #[.int .i64 e2,.int .i64 n2]] w fun x w'=>x=.returned (.tuple #[.int .i64 (EF e n e2 n2).1,.int .i64 (EF e n e2 n2).2])/\Fin w w':=by
 cases p1:jq e n with
 |false=>
  have h1:=fun w=>ZU e n false p1 w;go_enter Tryz.func9,Tryz.ntmps9;go_wp2_with (go_at_call 41;with_reducible refine rQ (h1 _) ?_;rintro x w1 ⟨rfl,hF1⟩)
  go_ret2;refine⟨?_,(Vl hF1).2.2.2.2⟩;unfold EF;rw[p1];rfl
 |true=>
  have h1:=fun w=>ZU e n true p1 w;cases p2:jq e2 n2 with
  |false=>
  have h2:=fun w=>ZU e2 n2 false p2 w;have P:=az (And.intro p1 p2);clear p1 p2;go_enter Tryz.func9,Tryz.ntmps9;go_wp2_with (go_at_call 41;first|(with_reducible refine rQ (h1 _) ?_;rintro x w1 ⟨rfl,hF1⟩;have⟨a0,a1,b0,b1,hF⟩:=Vl hF1)|(with_reducible refine rQ (h2 _) ?_;rintro x w2 ⟨rfl,hF2⟩))
  go_ret2;refine⟨?_,hF.trans hF2⟩;unfold EF;rw[P.out.1,P.out.2];rfl
  |true=>
  have h2:=fun w=>ZU e2 n2 true p2 w;have q1:=Eb p1;have q2:=Eb p2;have P:=az (And.intro p1 p2);clear p1 p2;have⟨q11,q12,q13,q14⟩:=q1;have⟨q21,q22,q23,q24⟩:=q2;go_enter Tryz.func9,Tryz.ntmps9;go_wp2_with (first|(go_at_call 41;first|(with_reducible refine rQ (h1 _) ?_;rintro x w1 ⟨rfl,hF1⟩;have⟨a0,a1,b0,b1,hF⟩:=Vl hF1)|(with_reducible refine rQ (h2 _) ?_;rintro x w2 ⟨rfl,hF2⟩;have⟨c0,c1,d0,d1,hG⟩:=Vl (hF1.trans hF2)))|(go_at_call 42;refine rQ (Tryz.Tj _ _ (by omega) (by omega) _) ?_;rintro x w3 ⟨rfl,rfl⟩))
  all_goals go_ret2
  .have e1:e=e2:=by assumption
   have e2':n=n2:=by assumption
   refine⟨?_,hG⟩;unfold EF;rw[P.out.1,P.out.2,JH,aY rfl,aY ⟨e1,e2'⟩];rfl
  .refine⟨?_,hG⟩;have e2':¬n=n2:=by assumption
   unfold EF;rw[P.out.1,P.out.2,JH,aY rfl,aU (fun h=>e2' h.2)];have e1:e=e2:=by assumption
   subst e1;simp
  refine⟨?_,hG⟩;have e1:¬e=e2:=by assumption
  unfold EF;rw[P.out.1,P.out.2,JH,aY rfl,aU (fun h=>e1 h.1)];rfl
end
section
attribute [local go_sem] nz
def wr1(x:IZ)(e n off:Int):Bool:=!(decide (x.e=e)&&decide (x.n=n)) && !(decide (x.b=shw (uC (e-x.e) (n-x.n)) off))
def Tryz.ac4(xe xn xb xc)(xs)(e n off)(hb:-20<=xe/\xe<=20/\-20<=xn/\xn<=20/\-20<=e/\e<=20/\-20<=n/\n<=20)(ho:-3<=off/\off<=3)(w:ay):Calls Tryz.prog 88 #[.agg #[.int .i64 xe,.int .i64 xn,.int .i64 xb,.int .i64 xc,.bool xs],.agg #[.int .i64 e,.int .i64 n],.int .i64 off] w fun x w'=>x=.returned (.bool (!(wr1 ⟨xe,xn,xb,xc,xs⟩ e n off)))/\Fin w w':=by
 obtain⟨T,hT⟩:∃T,uC (e-xe) (n-xn)=T:=⟨_,rfl⟩;have hr:=sW (e-xe) (n-xn);rw[hT] at hr;have⟨b1,b2,b3,b4,b5,b6,b7,b8⟩:=hb;have⟨o1,o2⟩:=ho;have⟨r1,r2⟩:=hr;have s1:IntKind.i64.wrap (e-xe)=e-xe:=IntWalk.i64_in _ (by omega);have s2:IntKind.i64.wrap (n-xn)=n-xn:=IntWalk.i64_in _ (by omega);have s3:IntKind.i64.wrap (T+off)=T+off:=IntWalk.i64_in _ (by omega);have s4:IntKind.i64.wrap (T+off+8)=T+off+8:=IntWalk.i64_in _ (by omega);have s5:IntKind.i64.wrap ((T+off+8) % 8)=(T+off+8) % 8:=IntWalk.i64_in _ (by omega);have s6:(T+off+8).tmod 8=(T+off+8) % 8:=Int.tmod_eq_emod_of_nonneg (by omega);by_cases h1:xe=e
 .subst h1;by_cases h2:xn=n
  .subst h2;clear s1 s2 s3 s4 s5 s6 hT
   go_enter Tryz.func88,Tryz.ntmps88;go_wp2;go_ret;exact⟨by simp[wr1],((Fin.refl _).alloc _ _).alloc _ _⟩
  have q:(xn==n)=false:=by simpa using h2
  have HT:=az hT;clear hT;go_enter Tryz.func88,Tryz.ntmps88;go_wp2;go_quiet ((go_at_call 42;exact Gg ((Tryz.Tj 0 (n-xn) (by omega) (by omega) _).mono fun _ _ h=>by have ht:=HT.out;rw[Int.sub_self] at ht;rw[ht] at h;exact h)));go_wp2;go_ret;refine⟨?_,(((Fin.refl _).alloc _ _).alloc _ _).drewN _⟩;have hm:(T+off+8) % 8=(T+off) % 8:=by omega
  have ht:=HT.out;unfold wr1 shw;show Ending.returned (Value.bool _)=_;refine bU (fun z=>Ending.returned (Value.bool z)) ?_;simp only[ht,hm];by_cases hh:(T+off) % 8=xb
  .simp[hh]
  have hh':¬xb=(T+off) % 8:=fun h=>hh h.symm;simp[hh,hh',h2]
 have q:(xe==e)=false:=by simpa using h1
 have HT:=az hT;clear hT;go_enter Tryz.func88,Tryz.ntmps88;go_wp2;go_quiet ((go_at_call 42;exact Gg ((Tryz.Tj (e-xe) (n-xn) (by omega) (by omega) _).mono fun _ _ h=>by rw[HT.out] at h;exact h)));go_wp2;go_ret;refine⟨?_,(((Fin.refl _).alloc _ _).alloc _ _).drewN _⟩;have hm:(T+off+8) % 8=(T+off) % 8:=by omega
 have ht:=HT.out;unfold wr1 shw;show Ending.returned (Value.bool _)=_;refine bU (fun z=>Ending.returned (Value.bool z)) ?_;simp only[ht,hm];by_cases hh:(T+off) % 8=xb
 .simp[hh]
 have hh':¬xb=(T+off) % 8:=fun h=>hh h.symm;simp[hh,hh',h1]
end
section
attribute [local go_sem] nz
def VA(ws:List IZ)(e n:Int)(os fs:List Int)(k:Nat):Bool:=hasB fs k || !(vM e n (H5 os) ws k)
def aaN{e n o ws k}(h:k<ws.length):vM e n o ws k=wr1 ws[k] e n (o ws[k].c.toNat):=by unfold vM wr1;simp[h]
def Tryz.abk(W H F e n)(ac aw ao af)(nc kc kw ko kf)(os fs)(ws)(w)(hm:ws.length<=5)(hmo:os.length<=3)(hmf:fs.length<=5)(hc:LM w aw ws)(ho:ED w ao os)(hf:ED w af fs)(hok:∀x∈ws,okW x/\x.c<os.length)(hos:∀x∈os,-3<=x/\x<=3)(he:0<=e/\e<=6/\0<=n/\n<=6):Calls Tryz.prog 49 #[.agg #[.int .i64 W,.int .i64 H,.int .i64 F,.slice ac nc kc,.slice aw ws.length kw],.agg #[.int .i64 e,.int .i64 n,.slice ao os.length ko,.slice af fs.length kf]] w fun x w'=>x=.returned (.bool ((List.range ws.length).all (VA ws e n os fs)))/\Fin w w':=by
 have HC:=az (And.intro hc (And.intro ho hf));have HO:=az hos;clear hc ho hf hos;go_enter Tryz.func49,Tryz.ntmps49;go_wp2;obtain⟨w1,hw1⟩:∃w1,(w.alloc (.cells #[.int .i64 W,.int .i64 H,.int .i64 F,.slice ac nc kc,.slice aw ws.length kw] 25)).alloc (.cells #[.int .i64 e,.int .i64 n,.slice ao os.length ko,.slice af fs.length kf] 30)=w1:=⟨_,rfl⟩;have hF:=hw1▸((Fin.refl _).alloc _ _).alloc _ _;have hS:w1.heap[w.heap.size+1]?=some (.cells #[.int .i64 e,.int .i64 n,.slice ao os.length ko,.slice af fs.length kf] 30 (0,0)):=by rw[<-hw1];exact(aeJ w _ _ _ _ _ _).2
 have hB:w1.heap[w.heap.size]?=some (.cells #[.int .i64 W,.int .i64 H,.int .i64 F,.slice ac nc kc,.slice aw ws.length kw] 25 (0,0)):=by rw[<-hw1];exact(iV _ _ _ (by simp)).trans (iq w _)
 have hlt1:=(aP.1 hS).1;rw[hw1];clear hw1;have HS:=az (And.intro hS hB);clear hS hB;go_loopw [5] (fun i wr=>∃k,k<=ws.length/\i=.int .i64 k/\Fin w1 wr/\∀j<k,VA ws e n os fs j=true) (fun i _=>ws.length-(intOf i).toNat);case atStart=>exact⟨0,gy _,rfl,Fin.refl _,fun j hj=>absurd hj (Gl _)⟩
 case round=>
  obtain⟨k,hk,rfl,hF1,hP⟩:=hrel;have HP:=az hP;clear hP;have v4:=ah ((hF1.below.block _ (Nat.lt_of_succ_lt hlt1)).trans HS.out.2) 4;simp at v4;by_cases hlt:k<ws.length
  .obtain⟨b,of,rfl,hb,e0,e1,e2,e3,e4⟩:=HC.out.1.fin (hF.trans hF1) k hlt;have hs:=aaN (e:=e) (n:=n) (o:=H5 os) hlt;have hox:=hok ws[k] (xJ hlt);generalize hx:ws[k]=x at e0 e1 e2 e3 e4 hs hox;have⟨xe,xn,xb,xc,xs⟩:=x;have⟨⟨hin,hb0,hb7,hc0,hc2⟩,hcl⟩:=hox;obtain⟨c,rfl⟩:=UD hc0;dsimp only[Int.toNat_natCast] at e0 e1 e2 e3 e4 hs hin hb0 hb7 hc0 hc2 hcl;have hcl':c<os.length:=by omega
   obtain⟨bo,oo,rfl,hbo,eo⟩:=HC.out.2.1.fin (hF.trans hF1) c hcl';have hoc:H5 os c=os[c]:=by unfold H5;simp[List.getD,hcl']
   have hbd:=HO.out os[c] (xJ hcl');rw[<-hoc] at eo hbd;have HQ:=az hs;have hSr:=(hF1.below.block _ hlt1).trans HS.out.1;have s0:=ah hSr 0;have s1:=ah hSr 1;have s2:=ah hSr 2;have s3:=ah hSr 3;simp at s0 s1 s2 s3;have hlr:w.heap.size+1<wr.heap.size:=bT hlt1 hF1.below.size;have hlr0:w.heap.size<wr.heap.size:=by omega
   clear hx hs hSr hoc;go_wp2;obtain⟨w2,hw2⟩:∃w2,wr.alloc (.cells #[.int .i64 xe,.int .i64 xn,.int .i64 xb,.int .i64 c,.bool xs] 41)=w2:=⟨_,rfl⟩;have⟨ta0,ta1,ta2,ta3,ta4,hz⟩:=W9 hw2;have hF2:Fin wr w2:=hw2▸(Fin.refl _).alloc _ _;have ts0:=((bD hF2).1 _ _ hlr).trans s0;have ts1:=((bD hF2).1 _ _ hlr).trans s1;have ts2:=((bD hF2).1 _ _ hlr).trans s2;have ts3:=((bD hF2).1 _ _ hlr).trans s3;have teo:=((bD hF2).1 _ _ hbo).trans eo;have hl2:w.heap.size+1<w2.heap.size:=by omega
   have hl3:wr.heap.size<w2.heap.size:=by omega
   have hl4:bo<w2.heap.size:=by omega
   have HR:=az (HC.out.2.2.fin ((hF.trans hF1).trans hF2));rw[hw2];clear hw2 s0 s1 s2 s3 e0 e1 e2 e3 e4 eo v4;have hcz:(0:Int)<=(c:Int):=by omega
   have hcl2:(c:Int)<os.length:=by omega
   have hbd2:-20<=xe/\xe<=20/\-20<=xn/\xn<=20/\-20<=e/\e<=20/\-20<=n/\n<=20:=by unfold inR at hin;omega
   have HB:=az (And.intro hbd hbd2);have hml:fs.length<=9223372036854775807:=by omega
   clear hbd hbd2 hin;cases hh:hasB fs k with
   |true=>
    have HH:=az hh;clear hh;have hH:∀w',Fin w2 w'->Calls Tryz.prog 87 #[.slice af fs.length kf,.int .i64 k] w' fun e w''=>e=.returned (.bool true)/\w''=w':=fun w' hw'=>(Tryz.ac5 k af kf fs w' hml (HR.out.fin hw')).mono fun _ _ h=>by rw[HH.out] at h;exact h
    go_quiet ((go_at_call 87;exact Gg (hH _ (by first|assumption|exact Fin.refl _|exact(Fin.refl _).drew|exact(Fin.refl _).drewN _))))
    all_goals go_wp2
    go_roundw;case rel=>exact⟨k+1,by omega,by go_num,(hF1.trans hF2).drewN _,yg HP.out (by unfold VA;rw[HH.out];rfl)⟩
    case measure=>simp[intOf];omega
   |false=>
    have HH:=az hh;clear hh;go_region_held3 (fun w'=>Fin w2 w'/\w'.cell? ⟨w.heap.size+1,0,none⟩=some (.int .i64 e)/\w'.cell? ⟨w.heap.size+1,1,none⟩=some (.int .i64 n)/\w'.cell? ⟨w.heap.size+1,2,none⟩=some (.slice (some ⟨bo,oo,none⟩) os.length ko)/\w'.cell? ⟨w.heap.size+1,3,none⟩=some (.slice af fs.length kf)/\w'.cell? ⟨wr.heap.size,0,none⟩=some (.int .i64 xe)/\w'.cell? ⟨wr.heap.size,1,none⟩=some (.int .i64 xn)/\w'.cell? ⟨wr.heap.size,2,none⟩=some (.int .i64 xb)/\w'.cell? ⟨wr.heap.size,3,none⟩=some (.int .i64 c)/\w'.cell? ⟨wr.heap.size,4,none⟩=some (.bool xs)/\w'.cell? ⟨bo,oo+c,none⟩=some (.int .i64 (H5 os c)))
     (first|(refine⟨?_,?_,?_,?_,?_,?_,?_,?_,?_,?_,?_⟩<;>first|assumption|exact Fin.refl _|exact(Fin.refl _).drew))
     (first|(go_at_call 87;refine((Tryz.ac5 k af kf fs _ hml (HR.out.fin (by first|assumption|exact(Fin.refl _).drew|exact Fin.refl _))).mono fun _ _ h=>(by rw[HH.out] at h;exact h:_=Ending.returned (.bool false)/\_)).mono ?_;rintro x w3 ⟨rfl,rfl⟩)|(go_at_call 88;refine(Tryz.ac4 xe xn xb c xs e n (H5 os c) HB.out.2 HB.out.1 _).mono ?_;rintro x w3 ⟨rfl,hF3⟩;have hA:Fin w2 w3:=Fin.trans (by first|assumption|exact(Fin.refl _).drew|exact Fin.refl _) hF3;have fs0:=((bD hA).1 _ _ hl2).trans ts0;have fs1:=((bD hA).1 _ _ hl2).trans ts1;have fs2:=((bD hA).1 _ _ hl2).trans ts2;have fs3:=((bD hA).1 _ _ hl2).trans ts3;have fa0:=((bD hA).1 _ _ hl3).trans ta0;have fa1:=((bD hA).1 _ _ hl3).trans ta1;have fa2:=((bD hA).1 _ _ hl3).trans ta2;have fa3:=((bD hA).1 _ _ hl3).trans ta3;have fa4:=((bD hA).1 _ _ hl3).trans ta4;have feo:=((bD hA).1 _ _ hl4).trans teo;clear hF3))
    cases hwr:wr1 ⟨xe,xn,xb,c,xs⟩ e n (H5 os c) with
    |true=>
    have HW:=az hwr;try rw[hwr]
    clear hwr;go_wp2;go_ret;refine⟨?_,(hF.trans hF1).trans (hF2.trans hA)⟩;have ha:(List.range ws.length).all (VA ws e n os fs)=false:=by rw[UJ];refine⟨k,fK.2 hlt,?_⟩;unfold VA;rw[HH.out,HQ.out,HW.out];decide
    rw[ha];rfl
    |false=>
    have HW:=az hwr;try rw[hwr]
    clear hwr;go_wp2;go_roundw;case rel=>exact⟨k+1,by omega,by go_num,(hF1.trans hF2).trans hA,yg HP.out (by unfold VA;rw[HQ.out,HW.out];simp)⟩
    case measure=>simp[intOf];omega
  have hk':k=ws.length:=by omega
  subst hk';go_wp2;go_ret;refine⟨?_,hF.trans hF1⟩;have ha:(List.range ws.length).all (VA ws e n os fs)=true:=bZ.2 fun j hj=>HP.out j (fK.1 hj);rw[ha];rfl
end
section
attribute [local go_sem] nz
def Tryz.QQ(W H F)(ac aw af)(nc kc kw kf)(fs)(ws)(w)(hm:ws.length<=5)(hmf:fs.length<=5)(hc:LM w aw ws)(hf:ED w af fs)(hfs:∀x∈fs,0<=x/\x<ws.length):Calls Tryz.prog 48 #[.agg #[.int .i64 W,.int .i64 H,.int .i64 F,.slice ac nc kc,.slice aw ws.length kw],.slice af fs.length kf] w fun x w'=>x=.returned (.bool (fs.any fun x=>kU ws x.toNat))/\Fin w w':=by
 have HC:=az (And.intro hc hf);clear hc hf;go_enter Tryz.func48,Tryz.ntmps48;go_wp2;obtain⟨w1,hw1⟩:∃w1,w.alloc (.cells #[.int .i64 W,.int .i64 H,.int .i64 F,.slice ac nc kc,.slice aw ws.length kw] 25)=w1:=⟨_,rfl⟩;have hF:=hw1▸(Fin.refl _).alloc _ _;have hB:w1.heap[w.heap.size]?=some (.cells #[.int .i64 W,.int .i64 H,.int .i64 F,.slice ac nc kc,.slice aw ws.length kw] 25 (0,0)):=by rw[<-hw1];exact iq w _
 have hlt1:=(aP.1 hB).1;rw[hw1];clear hw1;have HS:=az hB;clear hB;go_loopw [5] (fun i wr=>∃k,k<=fs.length/\i=.int .i64 k/\Fin w1 wr/\(fs.take k).any (fun x=>kU ws x.toNat)=false) (fun i _=>fs.length-(intOf i).toNat);case atStart=>exact⟨0,gy _,rfl,Fin.refl _,rfl⟩
 case round=>
  obtain⟨k,hk,rfl,hF1,hP⟩:=hrel;have HP:=az hP;clear hP;have v4:=ah ((hF1.below.block _ hlt1).trans HS.out) 4;simp at v4;by_cases hlt:k<fs.length
  .obtain⟨b,of,rfl,hb,e0⟩:=HC.out.2.fin (hF.trans hF1) k hlt;have hbd:=hfs fs[k] (xJ hlt);have hnext:(fs.take (k+1)).any (fun x=>kU ws x.toNat)=((fs.take k).any (fun x=>kU ws x.toNat)||kU ws fs[k].toNat):=by
    rw[Y5,oV hlt,F7];simp
   have hmem:kU ws fs[k].toNat=true->fs.any (fun x=>kU ws x.toNat)=true:=fun h=>jA.2 ⟨_,xJ hlt,h⟩;generalize hx:fs[k]=x at e0 hbd hnext hmem;obtain⟨c,rfl⟩:=UD hbd.1;have hcl:c<ws.length:=by omega
   obtain⟨bw,ow,rfl,hbw,x0,x1,x2,x3,x4⟩:=HC.out.1.fin (hF.trans hF1) c hcl;have hs:kU ws c=ws[c].s:=by unfold kU;simp[hcl]
   rw[<-hs] at x4;rw[Int.toNat_natCast] at hnext hmem;have hcz:(0:Int)<=(c):=by omega
   have hcl2:(c)<ws.length:=by omega
   have HN:=az (And.intro hnext hmem);clear hx hs hnext hmem x0 x1 x2 x3 hbd;cases hsb:kU ws c with
   |true=>
   have HB:=az hsb;rw[hsb] at x4;clear hsb;go_wp2;go_quiet (fail);all_goals go_wp2
   go_ret;refine⟨?_,(hF.trans hF1).drewN _⟩;rw[HN.out.2 HB.out];rfl
   |false=>
   have HB:=az hsb;rw[hsb] at x4;clear hsb;go_wp2;go_quiet (fail);all_goals go_wp2
   go_roundw;case rel=>exact⟨k+1,by omega,by go_num,hF1.drewN _,by rw[HN.out.1,HP.out,HB.out];rfl⟩
   case measure=>simp[intOf];omega
  have hk':k=fs.length:=by omega
  subst hk';go_wp2;go_ret;refine⟨?_,hF.trans hF1⟩;have ha:=HP.out;rw[Bz] at ha;rw[ha];rfl
end
section
attribute [local go_sem] nz
def KD(cs:List (Int×Int))(os:List Int)(k:Nat):Bool:=jW (H5 os k) (cs.getD k (0,0)).1 (cs.getD k (0,0)).2
def rIs(F:Int)(cs:List (Int×Int))(ws:List IZ)(e n:Int)(os fs:List Int):Bool:=(List.range os.length).all (KD cs os)&&(decide ((fs.length:Int)<=F) && !(fs.any fun x=>kU ws x.toNat)&&(List.range ws.length).all (VA ws e n os fs))
def Qn(W H F:Int)(cs:List (Int×Int))(ws:List IZ)(e n:Int)(os fs:List Int):Bool×Int:=if chk W H F cs ws=0 then(if xQ W H cs.length ws.length e n os fs=0 then(rIs F cs ws e n os fs,0) else(false,xQ W H cs.length ws.length e n os fs)) else(false,chk W H F cs ws)
structure Xq(w w1:ay)(c d:Array ae)(t u:aZ):Prop where
 fin:Fin w w1
 Pg:w1.heap[w.heap.size]?=some (.cells c t (0,0))
 case:w1.heap[w.heap.size+1]?=some (.cells d u (0,0))
def Xq.mk0(w)(c d)(t u):Xq w ((w.alloc (.cells c t)).alloc (.cells d u)) c d t u:=by refine⟨((Fin.refl _).alloc _ _).alloc _ _,(iV _ _ _ (by simp)).trans (iq w _),?_⟩;have:=iq (w.alloc (.cells c t)) (.cells d u);rwa[lZ] at this
def Xq.go{w w1 w2 c d t u}(h:Xq w w1 c d t u)(hF:Fin w1 w2):Xq w w2 c d t u:=⟨h.fin.trans hF,(hF.below.block _ (aP.1 h.Pg).1).trans h.Pg,(hF.below.block _ (aP.1 h.case).1).trans h.case⟩
def Xq.cells{w w1 c0 c1 c2 c3 c4 d0 d1 d2 d3 t u}(h:Xq w w1 #[c0,c1,c2,c3,c4] #[d0,d1,d2,d3] t u):w1.cell? ⟨w.heap.size,0,none⟩=some c0/\w1.cell? ⟨w.heap.size,1,none⟩=some c1/\w1.cell? ⟨w.heap.size,2,none⟩=some c2/\w1.cell? ⟨w.heap.size,3,none⟩=some c3/\w1.cell? ⟨w.heap.size,4,none⟩=some c4/\w1.cell? ⟨w.heap.size+1,0,none⟩=some d0/\w1.cell? ⟨w.heap.size+1,1,none⟩=some d1/\w1.cell? ⟨w.heap.size+1,2,none⟩=some d2/\w1.cell? ⟨w.heap.size+1,3,none⟩=some d3:=⟨ah h.Pg 0,ah h.Pg 1,ah h.Pg 2,ah h.Pg 3,ah h.Pg 4,ah h.case 0,ah h.case 1,ah h.case 2,ah h.case 3⟩
def aez{W H F cs ws}(h:chk W H F cs ws=0):∀x∈ws,x.c<cs.length:=fun x hx=>by
 unfold chk at h;split at h<;>try (exact absurd h (by decide))
 split at h<;>try (exact absurd h (by decide))
 split at h<;>try (exact absurd h (by decide))
 split at h<;>try (exact absurd h (by decide))
 have hw:=yx h x hx;unfold ug at hw;split at hw<;>try (exact absurd hw (by decide))
 split at hw<;>try (exact absurd hw (by decide))
 rename_i h6;rw[qx] at h6;omega
def Tryz.afW(W H F e n)(ac aw ao af)(kc kw ko kf)(cs)(ws)(os fs)(w)(hmc:cs.length<=9223372036854775807)(hmw:ws.length<=9223372036854775807)(hmo:os.length<=9223372036854775807)(hmf:fs.length<=9223372036854775807)(hc:Lp w ac cs)(hw:LM w aw ws)(ho:ED w ao os)(hf:ED w af fs):Calls Tryz.prog 11 #[.agg #[.int .i64 W,.int .i64 H,.int .i64 F,.slice ac cs.length kc,.slice aw ws.length kw],.agg #[.int .i64 e,.int .i64 n,.slice ao os.length ko,.slice af fs.length kf]] w fun en w'=>en=.returned (.tuple #[.bool (Qn W H F cs ws e n os fs).1,.int .i64 (Qn W H F cs ws e n os fs).2])/\Fin w w':=by
 have HR:=az (And.intro hc (And.intro hw (And.intro ho hf)));have HB:=az (Xq.mk0 w #[.int .i64 W,.int .i64 H,.int .i64 F,.slice ac cs.length kc,.slice aw ws.length kw] #[.int .i64 e,.int .i64 n,.slice ao os.length ko,.slice af fs.length kf] 25 30);clear hc hw ho hf;by_cases hz:chk W H F cs ws=0
 .have hg:=O9 hz;have HZ:=az (And.intro hz hg);clear hg;by_cases hz2:xQ W H cs.length ws.length e n os fs=0
  .have hgc:=Pj hz2;have HOW:=az (And.intro (fun x hx=>(⟨HZ.out.2.hok x hx,by rw[hgc.hm];exact aez hz x hx⟩:okW x/\x.c<os.length)) (And.intro hgc.off (show 0<=e/\e<=6/\0<=n/\n<=6 by have:=hgc.he;have:=hgc.hn;have:=HZ.out.2.hw;have:=HZ.out.2.hh;omega)));have HG:=az (And.intro hz2 hgc);clear hgc
   go_enter Tryz.func11,Tryz.ntmps11;go_wp2_with (first|(go_at_call 13;refine(Tryz.Tm W H F ac aw kc kw cs ws _ hmc hmw (HR.out.1.fin HB.out.fin) (HR.out.2.1.fin HB.out.fin)).mono ?_;rintro en w1 ⟨rfl,hF1⟩;have⟨c0,c1,c2,c3,c4,d0,d1,d2,d3⟩:=(HB.out.go hF1).cells;have HF1:=az hF1;rw[hz];clear hF1)|(go_at_call 47;refine(Tryz.NI W H F e n ac aw ao af cs.length kc ws.length kw ko kf os fs _ HZ.out.2.hw.1 HZ.out.2.hw.2 HZ.out.2.hh.1 HZ.out.2.hh.2 HZ.out.2.hm.2 HZ.out.2.hn hmo hmf (HR.out.2.2.1.fin (HB.out.fin.trans HF1.out)) (HR.out.2.2.2.fin (HB.out.fin.trans HF1.out))).mono ?_;rintro en w2 ⟨rfl,hF2⟩;have⟨x0,x1,x2,x3,x4,y0,y1,y2,y3⟩:=((HB.out.go HF1.out).go hF2).cells;have HF2:=az (HF1.out.trans hF2);rw[hz2];clear hF2 c0 c1 c2 c3 c4 d0 d1 d2 d3))
   clear x0 x1 x2 x3 x4 y0 y1 y2 y3 hz hz2;go_loopw [8] (fun i wr=>∃k,k<=os.length/\i=.int .i64 k/\Fin w2 wr/\∀j<k,KD cs os j=true) (fun i _=>os.length-(intOf i).toNat);case atStart=>exact⟨0,gy _,rfl,Fin.refl _,fun j hj=>absurd hj (Gl _)⟩
   case round=>
    obtain⟨k,hk,rfl,hF3,hP⟩:=hrel;have hF4:=(HB.out.fin.trans HF2.out).trans hF3;have⟨x0,x1,x2,x3,x4,y0,y1,y2,y3⟩:=((HB.out.go HF2.out).go hF3).cells;have HP:=az (And.intro hP hF3);clear hP hF3;by_cases hlt:k<os.length
    .have hlc:k<cs.length:=by have:=HG.out.2.hm;omega
     obtain⟨bo,oo,rfl,hbo,e0⟩:=HR.out.2.2.1.fin hF4 k hlt;obtain⟨bc,oc,rfl,hbc,g0,g1⟩:=HR.out.1.fin hF4 k hlc;have hok:KD cs os k=jW os[k] cs[k].1 cs[k].2:=by unfold KD H5;simp[List.getD,hlt,hlc]
     have HQ:=az (And.intro hok hF4);clear hok hF4;generalize os[k]=x at e0 HQ;generalize cs[k]=r at g0 g1 HQ;have⟨rl,rm⟩:=r;dsimp only at g0 g1 HQ;go_wp2;cases hb:jW x rl rm with
     |true=>
     have hbt:∀w,Calls Tryz.prog 24 #[.int .i64 x,.int .i64 rl,.int .i64 rm] w fun e w'=>e=.returned (.bool true)/\w'=w:=fun w=>by have:=Tryz.oG x rl rm w;rwa[hb] at this
     go_quiet ((go_at_call 24;exact Gg (hbt _)));all_goals go_wp2
     go_roundw;case rel=>exact⟨k+1,by omega,by go_num,HP.out.2.drewN _,yg HP.out.1 (HQ.out.1.trans hb)⟩
     case measure=>simp[intOf];omega
     |false=>
     have hbt:∀w,Calls Tryz.prog 24 #[.int .i64 x,.int .i64 rl,.int .i64 rm] w fun e w'=>e=.returned (.bool false)/\w'=w:=fun w=>by have:=Tryz.oG x rl rm w;rwa[hb] at this
     go_quiet ((go_at_call 24;exact Gg (hbt _)));all_goals go_wp2
     go_ret2;refine⟨?_,HQ.out.2.drewN _⟩;have ha:(List.range os.length).all (KD cs os)=false:=by rw[UJ];exact⟨k,fK.2 hlt,by rw[HQ.out.1,hb];decide⟩
     unfold Qn rIs;rw[aY HZ.out.1,aY HG.out.1,ha];rfl
    have hk':k=os.length:=by omega
    subst hk';have hall:=bZ.2 fun j hj=>HP.out.1 j (fK.1 hj);have HL:=az (And.intro hall hF4);have hm3:os.length<=3:=by have:=HG.out.2.hm;have:=HZ.out.2.hm;omega
    have hm5:fs.length<=5:=by have:=HG.out.2.hmf;have:=HZ.out.2.hn;omega
    have hfb:∀x∈fs,0<=x/\x<ws.length:=fun x hx=>by have:=HG.out.2.hfs x hx;omega
    have HBD:=az (And.intro hm3 (And.intro hm5 hfb));clear hall hF4 hm3 hm5 hfb;by_cases hle:(fs.length:Int)<=F
    .cases hs:fs.any (fun x=>kU ws x.toNat) with
     |true=>have HSU:=az hs;clear hs;go_wp2_with (go_at_call 48;refine((Tryz.QQ W H F ac aw af cs.length kc kw kf fs ws _ HZ.out.2.hn HBD.out.2.1 (HR.out.2.1.fin HL.out.2) (HR.out.2.2.2.fin HL.out.2) HBD.out.2.2).mono fun _ _ h=>(by rw[HSU.out] at h;exact h:_=Ending.returned (.bool true)/\_)).mono ?_;rintro en w3 ⟨rfl,hF5⟩);go_ret2;refine⟨?_,HL.out.2.trans hF5⟩;unfold Qn rIs;rw[aY HZ.out.1,aY HG.out.1,HL.out.1,HSU.out,rU hle];rfl
     |false=>
      have HSU:=az hs;clear hs;go_wp2_with (first|(go_at_call 48;refine((Tryz.QQ W H F ac aw af cs.length kc kw kf fs ws _ HZ.out.2.hn HBD.out.2.1 (HR.out.2.1.fin HL.out.2) (HR.out.2.2.2.fin HL.out.2) HBD.out.2.2).mono fun _ _ h=>(by rw[HSU.out] at h;exact h:_=Ending.returned (.bool false)/\_)).mono ?_;rintro en w3 ⟨rfl,hF5⟩;have⟨x0,x1,x2,x3,x4,y0,y1,y2,y3⟩:=(((HB.out.go HF2.out).go HP.out.2).go hF5).cells;have HF5:=az (HL.out.2.trans hF5);clear hF5)|(go_at_call 49;refine(Tryz.abk W H F e n ac aw ao af cs.length kc kw ko kf os fs ws _ HZ.out.2.hn HBD.out.1 HBD.out.2.1 (HR.out.2.1.fin HF5.out) (HR.out.2.2.1.fin HF5.out) (HR.out.2.2.2.fin HF5.out) HOW.out.1 HOW.out.2.1 HOW.out.2.2).mono ?_;rintro en w4 ⟨rfl,hF6⟩))
      go_ret2;refine⟨?_,HF5.out.trans hF6⟩;unfold Qn rIs;rw[aY HZ.out.1,aY HG.out.1,HL.out.1,HSU.out,rU hle];rfl
    go_wp2;go_ret2;refine⟨?_,HL.out.2⟩;unfold Qn rIs;rw[aY HZ.out.1,aY HG.out.1,HL.out.1,yS (show ¬(fs.length:Int)<=F by omega)];rfl
  have hne2:(xQ W H cs.length ws.length e n os fs==0)=false:=by simpa using hz2
  have HZ2:=az hz2;clear hz2;go_enter Tryz.func11,Tryz.ntmps11;go_wp2_with (first|(go_at_call 13;refine(Tryz.Tm W H F ac aw kc kw cs ws _ hmc hmw (HR.out.1.fin HB.out.fin) (HR.out.2.1.fin HB.out.fin)).mono ?_;rintro en w1 ⟨rfl,hF1⟩;have⟨c0,c1,c2,c3,c4,d0,d1,d2,d3⟩:=(HB.out.go hF1).cells;have HF1:=az hF1;rw[hz];clear hF1)|(go_at_call 47;refine(Tryz.NI W H F e n ac aw ao af cs.length kc ws.length kw ko kf os fs _ HZ.out.2.hw.1 HZ.out.2.hw.2 HZ.out.2.hh.1 HZ.out.2.hh.2 HZ.out.2.hm.2 HZ.out.2.hn hmo hmf (HR.out.2.2.1.fin (HB.out.fin.trans HF1.out)) (HR.out.2.2.2.fin (HB.out.fin.trans HF1.out))).mono ?_;rintro en w2 ⟨rfl,hF2⟩))
  go_ret2;refine⟨?_,(HB.out.fin.trans HF1.out).trans hF2⟩;unfold Qn;rw[aY HZ.out.1,aU HZ2.out];rfl
 have hne:(chk W H F cs ws==0)=false:=by simpa using hz
 have HZ:=az hz;clear hz;go_enter Tryz.func11,Tryz.ntmps11;go_wp2_with (go_at_call 13;refine(Tryz.Tm W H F ac aw kc kw cs ws _ hmc hmw (HR.out.1.fin HB.out.fin) (HR.out.2.1.fin HB.out.fin)).mono ?_;rintro en w1 ⟨rfl,hF1⟩);go_ret2;refine⟨?_,HB.out.fin.trans hF1⟩;unfold Qn;rw[aU HZ.out];rfl
end
def agI{o s}:YD o s=true ↔ ∀j<3,s.o j=o j:=by
 simp only[YD,aT,BV];constructor
 .rintro⟨⟨h0,h1⟩,h2⟩ j hj
  match j,hj with
  |0,_=>exact h0
  |1,_=>exact h1
  |2,_=>exact h2
 intro h;exact⟨⟨h 0 (by decide),h 1 (by decide)⟩,h 2 (by decide)⟩
def ZV{a b v}:v∈rng a b↔a<=v/\v<=b:=by
 simp only[rng,oZ,fK];constructor
 .rintro⟨k,hk,rfl⟩;omega
 rintro⟨h1,h2⟩;exact⟨(v-a).toNat,by omega,by omega⟩
def RD{o:Nat->Int}:∀(rs:List (Int×Int)) (i:Nat) (s:Sg),i+rs.length<=3->((lJ rs i s).any (YD o)=true↔(∀k (h:k<rs.length),rs[k].1<=o (i+k)/\o (i+k)<=rs[k].2)/\∀j<3,(j<i\/i+rs.length<=j)->s.o j=o j)
|[],i,s,h=>by
 simp only[lJ,List.any_cons,List.any_nil,Bool.or_false,agI];constructor
 .intro hh;exact⟨fun k hk=>by simp at hk,fun j hj _=>hh j hj⟩
 rintro⟨_,hh⟩ j hj;exact hh j hj (by simp;omega)
|r::rs,i,s,h=>by
 have hi:i<3:=by simp at h;omega
 have ih:=fun v=>RD (o:=o) rs (i+1) ⟨s.e,s.n,Cb s.o i v⟩ (by simp at h;omega);simp only[lJ,List.any_flatMap];rw[jA];constructor
 .rintro⟨v,hv,hh⟩;have⟨h1,h2⟩:=(ih v).1 hh;have⟨v1,v2⟩:=ZV.1 hv;have hvi:v=o i:=by
   have:=h2 i hi (.inl (by omega));simpa[Cb] using this
  refine⟨fun k hk=>?_,fun j hj hji=>?_⟩
  .cases k with
   |zero=>exact⟨by simpa[<-hvi] using v1,by simpa[<-hvi] using v2⟩
   |succ k=>have:=h1 k (by simpa using hk);rw[show i+1+k=i+(k+1) by omega] at this;simpa using this
  have hne:j≠i:=by
   rcases hji with hh|hh
   .omega
   simp at hh;omega
  have:=h2 j hj (by rcases hji with hh|hh;exact .inl (by omega);exact .inr (by simp at hh⊢;omega));simpa[Cb,hne] using this
 rintro⟨h1,h2⟩;have h0:=h1 0 (by simp);simp only[List.getElem_cons_zero,Nat.add_zero] at h0;refine⟨o i,ZV.2 h0,(ih (o i)).2 ⟨fun k hk=>?_,fun j hj hji=>?_⟩⟩
 .have:=h1 (k+1) (by simpa using hk);rw[show i+(k+1)=i+1+k by omega] at this;simpa using this
 by_cases e:j=i
 .subst e;simp[Cb]
 have:=h2 j hj (by rcases hji with hh|hh;exact .inl (by omega);exact .inr (by simp at hh⊢;omega));simpa[Cb,e] using this
def acQ{cs W H}(hW:0<W)(hH:0<H)(hm:cs.length<=3){o}:(rows cs W H).any (YD o)=true↔(∀k (h:k<cs.length),cs[k].1<=o k/\o k<=cs[k].2)/\∀j<3,cs.length<=j->o j=0:=by
 have key:∀(x y),((lJ cs 0 ⟨x,y,fun _=>0⟩).any (YD o)=true↔(∀k (h:k<cs.length),cs[k].1<=o k/\o k<=cs[k].2)/\∀j<3,cs.length<=j->o j=0):=fun x y=>by
  rw[RD cs 0 _ (by omega)];simp only[DF];constructor
  .rintro⟨h1,h2⟩;exact⟨h1,fun j hj hl=>(h2 j hj (.inr hl)).symm⟩
  rintro⟨h1,h2⟩;exact⟨h1,fun j hj hl=>(h2 j hj (hl.resolve_left (by omega))).symm⟩
 constructor
 .intro h;have⟨s,hs,he⟩:=jA.1 h;simp only[rows,cols,UB,fK] at hs;have⟨y,_,x,_,hx⟩:=hs;exact(key x y).1 (jA.2 ⟨s,hx,he⟩)
 intro h;have⟨s,hs,he⟩:=jA.1 ((key 0 0).2 h);refine jA.2 ⟨s,?_,he⟩;simp only[rows,cols,UB,fK];exact⟨0,hH,0,hW,hs⟩
def af5{cs os W H}(hW:0<W)(hH:0<H)(hm:cs.length<=3)(hl:os.length=cs.length):(rows cs W H).any (YD (H5 os))=(List.range os.length).all (KD cs os):=by
 rw[Ld,acQ hW hH hm,bZ];constructor
 .rintro⟨h1,_⟩ k hk;have hk':k<cs.length:=by have:=fK.1 hk;omega
  unfold KD;rw[qx];simpa[List.getD,hk'] using h1 k hk'
 intro h;refine⟨fun k hk=>?_,fun j hj hlj=>?_⟩
 .have:=h k (fK.2 (by omega));unfold KD at this;rw[qx] at this;simpa[List.getD,hk] using this
 unfold H5;simp[List.getD,Zg (show os.length<=j by omega)]
def ZO:∀a<32,∀i<5,orB ((a:Nat):Int) i=(((a ||| 2 ^ i):Nat):Int)/\(a ||| 2 ^ i)<32:=by decide +kernel
def ahb:∀a<32,∀b<32,(anB ((a:Nat):Int) ((b:Nat):Int)==0)=(List.range 5).all fun k=>!(a.testBit k)||b.testBit k:=by decide +kernel
def aha:∀a<32,∀b<32,decide (bits BinOp.and IntKind.u8 ((a:Nat):Int) ((b:Nat):Int)=0)=(List.range 5).all fun k=>!(a.testBit k) || !(b.testBit k):=by decide +kernel
def afY:∀a<32,XX a=(((List.range 5).filter a.testBit).length:Int):=by decide +kernel
def gN(p:Nat->Bool):Nat->Nat
|0=>0
|k+1=>if p k then gN p k ||| 2 ^ k else gN p k
def Ub(p:Nat->Bool):∀n,n<=5->grp p n=(gN p n:Int)/\gN p n<32/\∀k,(gN p n).testBit k=(decide (k<n)&&p k)
|0,_=>⟨rfl,show 0<32 by decide,fun k=>by simp[gN]⟩
|n+1,h=>by
 have⟨h1,h2,h3⟩:=Ub p n (by omega);have⟨o1,o2⟩:=ZO (gN p n) h2 n (by omega);by_cases hp:p n
 .simp only[grp,gN,hp,je];refine⟨by rw[h1,o1],o2,fun k=>?_⟩;rw[Nat.testBit_or,h3,Nat.testBit_two_pow];by_cases e:n=k
  .subst e;simp[hp]
  have:decide (k<n+1)=decide (k<n):=Sj.2 (by omega);simp[e,this]
 simp only[grp,gN,hp];refine⟨h1,h2,fun k=>?_⟩;have hs:(if false=true then gN p n ||| 2 ^ n else gN p n)=gN p n:=by simp
 rw[hs,h3];by_cases e:n=k
 .subst e;simp[hp]
 have:decide (k<n+1)=decide (k<n):=Sj.2 (by omega);rw[this]
def lN(fs:List Int):Nat:=fs.foldl (fun a x=>a ||| 2 ^ x.toNat) 0
def Ru:∀(fs:List Int) (a:Nat),a<32->(∀x∈fs,0<=x/\x<=4)->fs.foldl (fun g x=>orB g x.toNat) ((a:Nat):Int)=((fs.foldl (fun a x=>a ||| 2 ^ x.toNat) a:Nat):Int)/\fs.foldl (fun a x=>a ||| 2 ^ x.toNat) a<32/\∀k:Nat,(fs.foldl (fun a x=>a ||| 2 ^ x.toNat) a).testBit k=(a.testBit k||fs.contains (k:Int))
|[],a,ha,_=>⟨rfl,ha,fun k=>by simp⟩
|x::fs,a,ha,h=>by have hx:=h x (fZ ..);have⟨o1,o2⟩:=ZO a ha x.toNat (by omega);have⟨h1,h2,h3⟩:=Ru fs (a ||| 2 ^ x.toNat) o2 fun y hy=>h y (jy _ hy);refine⟨by simp only[List.foldl_cons];rw[o1];exact h1,h2,fun k=>?_⟩;simp only[List.foldl_cons];rw[h3,Nat.testBit_or,Nat.testBit_two_pow,List.contains_cons,Bool.or_assoc];congr 2;rw[Ld,PH,BV];omega
def Rl{fs}(h:∀x∈fs,0<=x/\x<=4):Ik fs=(lN fs)/\lN fs<32/\∀k,(lN fs).testBit k=hasB fs (k):=by have⟨h1,h2,h3⟩:=Ru fs 0 (by decide) h;exact⟨h1,h2,fun k=>by unfold lN hasB;rw[h3];simp⟩
def aeR{nw:Nat}{l:List Int}(h:Uu nw l=0):∀j i,i<j->j<l.length->gI l i<gI l j
|0,i,hi,_=>by omega
|j+1,i,hi,hj=>by
 have h2:=(Pv h hj).2;simp only[Nat.add_sub_cancel] at h2;have h3:¬gI l (j+1)<=gI l j:=fun hh=>h2 ⟨by omega,hh⟩;by_cases e:i=j
 .subst e;omega
 have:=aeR h j i (by omega) (by omega);omega
def aca{nw:Nat}{l}(h:Uu nw l=0):l.Nodup:=by unfold List.Nodup;rw[List.pairwise_iff_getElem];intro i j hi hj hij;have:=aeR h j i hij hj;rw[ad3 hi,ad3 hj] at this;omega
def afZ{nw:Nat}{fs:List Int}(h:Uu nw fs=0)(hb:∀x∈fs,0<=x/\x<=4):XX (lN fs)=(fs.length:Int):=by
 have⟨_,h2,h3⟩:=Rl hb;rw[afY _ h2];have hp:(((List.range 5).filter (lN fs).testBit).map (fun(k:Nat)=>(k:Int))).Perm fs:=by
  refine(List.perm_ext_iff_of_nodup ?_ (aca h)).2 fun x=>?_
  .have:((List.range 5).filter (lN fs).testBit).Nodup:=List.nodup_range.filter _;unfold List.Nodup at this⊢;rw[List.pairwise_map];exact this.imp fun hne=>by omega
  simp only[oZ,kK,fK,h3,hasB,Gq];constructor
  .rintro⟨k,⟨_,hk⟩,rfl⟩;exact hk
  intro hx;have:=hb x hx;exact⟨x.toNat,⟨by omega,by rwa[Int.toNat_of_nonneg this.1]⟩,by omega⟩
 have:=hp.length_eq;rw[UA] at this;rw[this]
def ah2{F ws p fs}(hn:ws.length<=5)(ha:Uu ws.length fs=0)(hb:∀x∈fs,0<=x/\x<=(ws.length:Int)-1):((abO F ws).filter (fits (grp p ws.length))).any (· == Ik fs)=(decide ((fs.length:Int)<=F) && !(fs.any fun x=>kU ws x.toNat)&&(List.range ws.length).all fun k=>hasB fs k || !(p k)):=by
 have hb4:∀x∈fs,0<=x/\x<=4:=fun x hx=>by have:=hb x hx;omega
 have⟨l1,l2,l3⟩:=Rl hb4;have⟨w1,w2,w3⟩:=Ub p ws.length hn;have⟨s1,s2,s3⟩:=Ub (kU ws) ws.length hn;have hlt:lN fs<2 ^ ws.length:=Nat.lt_pow_two_of_testBit _ fun i hi=>by rw[l3];unfold hasB;rw[<-Gt,Gq];intro hm;have:=hb _ hm;omega
 have hA:decide (bits BinOp.and IntKind.u8 ((lN fs:Nat):Int) (grp (kU ws) ws.length)=0) = !(fs.any fun x=>kU ws x.toNat):=by
  rw[s1,aha _ l2 _ s2,Ld,bZ,ET,UQ];constructor
  .intro h x hx;have hx4:=hb4 x hx;have hxn:=hb x hx;have:=h x.toNat (fK.2 (by omega));rw[l3,s3] at this;have hh:hasB fs ((x.toNat:Nat):Int)=true:=by unfold hasB;rw[Gq,Int.toNat_of_nonneg hx4.1];exact hx
   rw[hh,rU (show x.toNat<ws.length by omega)] at this;simpa using this
  intro h k hk;rw[l3,s3];cases hh:hasB fs (k:Int) with
  |false=>rfl
  |true=>
  have hm:(k:Int)∈fs:=by unfold hasB at hh;rwa[Gq] at hh
  have:=h _ hm;rw[Int.toNat_natCast] at this;simp[this]
 have hW:fits (grp p ws.length) ((lN fs:Nat):Int)=(List.range ws.length).all fun k=>hasB fs k || !(p k):=by
  unfold fits;rw[w1,ahb _ w2 _ l2,Ld,bZ,bZ];constructor
  .intro h k hk;have hk':=fK.1 hk;have:=h k (fK.2 (by omega));rw[l3,w3,rU hk'] at this;simpa[Bool.or_comm] using this
  intro h k hk;rw[l3,w3];by_cases hk':k<ws.length
  .have:=h k (fK.2 hk');rw[rU hk'];simpa[Bool.or_comm] using this
  simp[hk']
 have hP:=afZ ha hb4;rw[Ld];simp only[aT,PH];rw[<-hA,<-hW,PH,jA];constructor
 .rintro⟨g,hg,he⟩;have⟨hg1,hg2⟩:=kK.1 hg;have he':g=Ik fs:=by simpa using he
  have⟨m,hm,hmg⟩:=oZ.1 hg1;have hml:m=lN fs:=by rw[he',l1] at hmg;omega
  subst hml;have⟨_,hs⟩:=kK.1 hm;simp only[MQ,aT,PH,hP] at hs;rw[he',l1] at hg2;exact⟨⟨hs.2,hs.1⟩,hg2⟩
 rintro⟨⟨h1,h2⟩,h3⟩;refine⟨Ik fs,kK.2 ⟨oZ.2 ⟨lN fs,kK.2 ⟨fK.2 hlt,?_⟩,l1.symm⟩,by rw[l1];exact h3⟩,by simp⟩;simp only[MQ,aT,PH,hP];exact⟨h2,h1⟩
def akc(W H F)(cs)(ws)(e n)(os fs):isV W H F cs ws e n os fs=Qn W H F cs ws e n os fs:=by
 unfold isV Qn;by_cases hz:chk W H F cs ws=0
 .rw[aY hz,aY hz];by_cases hz2:xQ W H cs.length ws.length e n os fs=0
  .rw[aY hz2,aY hz2];have hg:=O9 hz;have hc:=Pj hz2;unfold isB rIs;rw[af5 (by have:=hg.hw;omega) (by have:=hg.hh;omega) hg.hm.2 hc.hm,ah2 hg.hn hc.hasc hc.hfs]
   rfl
  rw[aU hz2,aU hz2]
 rw[aU hz,aU hz]
section
attribute [local go_sem] nz
def Tryz.Great(W H F)(ac aw)(nc nw kc kw)(w)(hc:nc<=9223372036854775807)(hw:nw<=9223372036854775807):Calls Tryz.prog 6 #[.agg #[.int .i64 W,.int .i64 H,.int .i64 F,.slice ac nc kc,.slice aw nw kw]] w fun x w'=>x=.returned (.bool (decide (20<nc)||decide (20<nw)))/\Fin w w':=by
 go_enter Tryz.func6,Tryz.ntmps6;go_wp2_with fail
 .have h1:¬20<nc:=by omega
  go_ret;refine⟨?_,(Fin.refl w).alloc _ _⟩;have e1:((20:Int)<(nc))=(20<nc):=by simp;omega
  have e2:((20:Int)<(nw))=(20<nw):=by simp;omega
  simp only[e1,e2];rfl
 have h1:20<nc:=by omega
 go_ret;refine⟨?_,(Fin.refl w).alloc _ _⟩;simp[h1]
end
end Go.Proofs
