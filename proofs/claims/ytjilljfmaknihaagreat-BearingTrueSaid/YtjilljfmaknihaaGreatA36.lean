import Derived.Test.YtjilljfmaknihaaGreatA34
set_option linter.all false
set_option maxHeartbeats 16000000
set_option maxRecDepth 100000
section
namespace Go
def dm.fin{w w'}(h:dm w.heap.size w w'):Proofs.Fin w w':=⟨h.below,h.fD⟩
end Go
namespace Go.Proofs
open Go.RowKit Go.Shelf
attribute [local go_sem] nz
def Tryz.aiO(a0 a1 a2 b0 b1 b2)(w):(Op.equalIn 10000 87 (.agg #[.int .i64 a0,.int .i64 a1,.int .i64 a2]) (.agg #[.int .i64 b0,.int .i64 b1,.int .i64 b2])).run Tryz.prog w=.ok (a0==b0&&a1==b1&&a2==b2) w:=by
 have⟨i,hi⟩:=gQ.1 (show(Tryz.prog.info? 3).isSome=true by kernel_rfl);have hc:Tryz.prog.cellsOf 3=1:=by kernel_rfl
 have:List.range 3=[0,1,2]:=rfl;rw[run_equalIn_array w 9999 _ _ Tryz.underlying87 hi];simp[this,Op.eqItems,go_sem,hc];by_cases h0:a0=b0<;>by_cases h1:a1=b1<;>by_cases h2:a2=b2<;>simp[h0,h1,h2]
attribute [local go_sem] Tryz.aiO
def ckd(W H F:Int)(ac aw:aB Addr)(nc kc nw kw:Nat)(su:ae):Array ae:=#[.int .i64 W,.int .i64 H,.int .i64 F,.slice ac nc kc,.slice aw nw kw,su]
def Tryz.settings(W H F)(ac aw)(nc kc nw kw n)(su)(w):CallsIn Fence.wide n Tryz.prog 95 #[.agg #[.int .i64 W,.int .i64 H,.int .i64 F,.slice ac nc kc,.slice aw nw kw,su]] w fun e w'=>e=.returned (.func (.func 127) #[] #[.pointer (some ⟨w.heap.size,0,none⟩)])/\w'=w.alloc (.cells #[.int .i64 W,.int .i64 H,.int .i64 F,.slice ac nc kc,.slice aw nw kw,su] 81):=by refine F8 Tryz.func95 rfl trivial ?_ rfl;simp only[Tryz.ntmps95,oq,List.length_cons,List.length_nil,Nat.reduceAdd,Nat.reduceSub,xG,Array.replicate_zero,uo,xE,List.nil_append,List.cons_append];gi_wp2;go_ret;exact⟨rfl,rfl⟩
def Fin.step{w w'}(h:Fin w w'):dm w.heap.size w w':=⟨h.1,h.2⟩
def YD(o:Nat->Int)(s:Sg):Bool:=s.o 0==o 0&&s.o 1==o 1&&s.o 2==o 2
def Tryz.aeG(W H:Nat)(F:Int)(ac aw:aB Addr)(kc nw kw:Nat)(su:ae)(cs:List (Int×Int))(o:Nat->Int)(w:ay)(hW2:W<=7)(hH2:H<=7)(hm:cs.length<=3)(hcs:∀r∈cs,-3<=r.1/\r.1<=r.2/\r.2<=3)(hrd:Lp w ac cs)(hac:∀b o,ac=some ⟨b,o,none⟩->b<w.heap.size):CallsIn Fence.wide 5 Tryz.prog 82 #[.agg #[.int .i64 W,.int .i64 H,.int .i64 F,.slice ac cs.length kc,.slice aw nw kw,su],.agg #[.int .i64 (o 0),.int .i64 (o 1),.int .i64 (o 2)]] w fun e w'=>e=.returned (.bool ((rows cs W H).any (YD o)))/\Fin w w':=by
 refine callsIn_of_wp_marks Tryz.func82 rfl trivial ?_ rfl;simp only[Tryz.ntmps82,oq,List.length_cons,List.length_nil,Nat.reduceAdd,Nat.reduceSub,xG,Array.replicate_zero,uo,xE,List.nil_append,List.cons_append];gi_wp2;refine⟨trivial,?_⟩;refine(Tryz.settings _ _ _ _ _ _ _ _ _ _ _ _).mono ?_;rintro e w' ⟨rfl,rfl⟩;gi_wp2;obtain⟨W0,hW0⟩:∃W0,((((w.alloc (.cells #[.int .i64 W,.int .i64 H,.int .i64 F,.slice ac cs.length kc,.slice aw nw kw,su] 81)).alloc (.cells #[.int .i64 (o 0),.int .i64 (o 1),.int .i64 (o 2)] 87)).alloc (.cells #[.bool false] 4)).alloc (.cells #[.int .i64 W,.int .i64 H,.int .i64 F,.slice ac cs.length kc,.slice aw nw kw,su] 81))=W0:=⟨_,rfl⟩;have hs0:W0.heap.size=w.heap.size+4:=by rw[<-hW0];simp
 have st0:dm w.heap.size w W0:=by rw[<-hW0];exact(((dm.obj (aA _) rfl).trans (dm.obj (by simp) rfl)).trans (dm.obj (by simp<;>omega) rfl)).trans (dm.obj (by simp<;>omega) rfl)
 have hB1:W0.heap[w.heap.size+1]?=some (.cells #[.int .i64 (o 0),.int .i64 (o 1),.int .i64 (o 2)] 87 (0,0)):=by rw[<-hW0];refine(iV _ _ _ (by simp<;>omega)).trans ((iV _ _ _ (by simp<;>omega)).trans ?_);have:=iq (w.alloc (.cells #[.int .i64 W,.int .i64 H,.int .i64 F,.slice ac cs.length kc,.slice aw nw kw,su] 81)) (.cells #[.int .i64 (o 0),.int .i64 (o 1),.int .i64 (o 2)] 87);rwa[lZ] at this
 have hB2:W0.heap[w.heap.size+1+1]?=some (.cells #[.bool false] 4 (0,0)):=by rw[<-hW0];refine(iV _ _ _ (by simp<;>omega)).trans ?_;have:=iq ((w.alloc (.cells #[.int .i64 W,.int .i64 H,.int .i64 F,.slice ac cs.length kc,.slice aw nw kw,su] 81)).alloc (.cells #[.int .i64 (o 0),.int .i64 (o 1),.int .i64 (o 2)] 87)) (.cells #[.bool false] 4);rwa[lZ,lZ] at this
 have hB3:W0.heap[w.heap.size+1+1+1]?=some (.cells #[.int .i64 W,.int .i64 H,.int .i64 F,.slice ac cs.length kc,.slice aw nw kw,su] 81 (0,0)):=by rw[<-hW0];have:=iq (((w.alloc (.cells #[.int .i64 W,.int .i64 H,.int .i64 F,.slice ac cs.length kc,.slice aw nw kw,su] 81)).alloc (.cells #[.int .i64 (o 0),.int .i64 (o 1),.int .i64 (o 2)] 87)).alloc (.cells #[.bool false] 4)) (.cells #[.int .i64 W,.int .i64 H,.int .i64 F,.slice ac cs.length kc,.slice aw nw kw,su] 81);rwa[lZ,lZ,lZ] at this
 have hrd0:Lp W0 ac cs:=fun i hi=>by have⟨b,o,h1,h2,h3,h4⟩:=hrd i hi;have hb:W0.heap[b]?=w.heap[b]?:=st0.below.block _ h2;exact⟨b,o,h1,bT h2 st0.below.size,(xC (a:=⟨b,_,none⟩) hb).trans h3,(xC (a:=⟨b,_,none⟩) hb).trans h4⟩
 rw[hW0];clear hW0;refine GH rfl (by decide) (gf:=127) (lb:=#[.pointer (some ⟨w.heap.size+1+1+1,0,none⟩)]) rfl trivial (enters_of Tryz.func127 (by kernel_rfl) rfl)
  (X:=fun k=>k=w.heap.size+1+1) (Tryz.aa1 W H F _ ac aw kc nw kw _ su cs _ W0 (fun k hk=>by subst hk;omega) (by omega) (fun b o h=>by have:=hac b o h;omega) hW2 hH2 hm hcs hB3 hrd0 (fun b o h=>by have:=hac b o h;omega))
  (fun k hk=>by subst hk;omega) (PN _ _) (fun _=>rfl)
  (fun pre A=>pre.any (YD o)=false/\A.heap[w.heap.size+1]?=some (.cells #[.int .i64 (o 0),.int .i64 (o 1),.int .i64 (o 2)] 87 (0,0))/\A.heap[w.heap.size+1+1]?=some (.cells #[.bool false] 4 (0,0))/\dm w.heap.size w A)
  (fun c pre A=>c=.ret/\pre.any (YD o)=true/\A.heap[w.heap.size+1+1]?=some (.cells #[.bool true] 4 (0,0))/\dm w.heap.size w A)
  (fun pre A A' h hs=>⟨h.1,(hs.below.block _ (by omega)).trans h.2.1,(hs.below.block _ (by omega)).trans h.2.2.1,h.2.2.2.trans (hs.mono (by omega))⟩)
  (fun c pre A A' h hs=>⟨h.1,h.2.1,(hs.below.block _ (by omega)).trans h.2.2.1,h.2.2.2.trans (hs.mono (by omega))⟩)
  ⟨rfl,hB1,hB2,st0⟩ ?round ?done ?stop
 case round=>
  rintro l pre x W1 hsz ⟨hp,h1,h2,hs⟩;clear hB1 hB2 hB3 hrd0 hrd hac st0 hcs;have z1:=@Y6;unfold aet;gi_wp2_with (rw[Oper.semAt_eq _ _ _ (fun c h=>by cases h)];go_simp;try go_bits)
  refine⟨⟨by simp,fun k o' _ hk=>(iV _ _ _ (aP.1 hk).1).trans hk⟩,fun Wb hb hk=>?_⟩;have hx:Wb.heap[W1.heap.size]?=some (.cells #[.int .i64 x.e,.int .i64 x.n,.int .i64 (x.o 0),.int .i64 (x.o 1),.int .i64 (x.o 2)] 89 (0,0)):=hk.2 _ _ (fun h=>h) (iq W1 _) rfl;have h1b:Wb.heap[w.heap.size+1]?=some (.cells #[.int .i64 (o 0),.int .i64 (o 1),.int .i64 (o 2)] 87 (0,0)):=(hb.below.block _ (by omega)).trans ((iV _ _ _ (by omega)).trans h1);have h2b:Wb.heap[w.heap.size+1+1]?=some (.cells #[.bool false] 4 (0,0)):=(hb.below.block _ (by omega)).trans ((iV _ _ _ (by omega)).trans h2);have hsb:dm w.heap.size w Wb:=(hs.trans (dm.obj (by omega) rfl)).trans (hb.mono (by omega));have x0:=ah hx 2;have x1:=ah hx 3;have x2:=ah hx 4;have y0:=ah h1b 0;have y1:=ah h1b 1;have y2:=ah h1b 2;have r0:=ah h2b 0;have r1:=iJ h2b 0;simp at x0 x1 x2 y0 y1 y2 r0;have H1:=az h1b;have H2:=az h2b;have HS:=az hsb;have HP:=az hp;clear hx h1b h2b hsb h1 h2 hs hb hk hp z1;gi_wp2_with (rw[Oper.semAt_eq _ _ _ (fun c h=>by cases h)];go_simp;try go_bits)
  .rename_i hx;refine⟨⟨by simp[World.setCell],fun k o' hk ho=>(Bo _ _ _ _ hk).trans ho⟩,rfl,?_,JI H2.out,HS.out.trans (dm.zo (by simp;omega) _)⟩;rw[F7];simp[YD,hx]
  rename_i hx;refine⟨Bdy.refl _ _,?_,H1.out,H2.out,HS.out⟩;rw[F7,HP.out];rcases hx with(hx|hx)|hx<;>simp[YD,hx]
 case done=>rintro xs W1 rfl ⟨hp,h1,h2,hs⟩ hD;have r0:=ah h2 0;have r1:=iJ h2 0;simp at r0;have H2:=az h2;have HS:=az hs;clear h1 h2 hs hB1 hB2 hB3 hrd0 hrd hac st0 hcs;gi_wp2;have h2:=JI (u:=.bool false) H2.out;have hK:=(Bo W1 ⟨w.heap.size+1+1,0,none⟩ (.bool false) W0.heap.size (by simp;omega)).trans hD;refine⟨by simp,.inl ⟨_,_,rfl,run_takeDeferred hK,?_⟩⟩;have h5:=(World.putObj_heap_other (o:=.deferred none) (show w.heap.size+1+1≠W0.heap.size by omega)).trans h2;refine⟨.bool false,?_,by rw[hp],((HS.out.trans (dm.zo (p:=⟨w.heap.size+1+1,0,none⟩) (by simp;omega) (.bool false))).trans (dm.put (l:=W0.heap.size) (o:=.deferred none) (by omega) rfl)).fin⟩;have h6:=ah h5 0;simp at h6;simp[results,Tryz.f82,go_sem,h6]
 case stop=>
  rintro c pre W1 hpre ⟨rfl,hp,h2,hs⟩ hD;clear hB1 hB2 hB3 hrd0 hrd hac st0 hcs;gi_wp2;refine⟨by simp,.inl ⟨_,_,rfl,run_takeDeferred hD,?_⟩⟩;have h5:=(World.putObj_heap_other (o:=.deferred none) (show w.heap.size+1+1≠W0.heap.size by omega)).trans h2;refine⟨.bool true,?_,?_,(hs.trans (dm.put (l:=W0.heap.size) (o:=.deferred none) (by omega) rfl)).fin⟩
  .have h6:=ah h5 0;simp at h6;simp[results,Tryz.f82,go_sem,h6]
  have⟨t,ht⟩:=hpre;rw[<-ht,F7,hp];rfl
end Go.Proofs
end
