import Derived.Test.YtjilljfmaknihaaGreatA51
import Derived.Test.YtjilljfmaknihaaGreatA52
import Derived.Test.YtjilljfmaknihaaGreatA49
set_option linter.all false
set_option maxHeartbeats 16000000
set_option maxRecDepth 100000
namespace Go
def F6:=@Go.wpIn_wide
end Go
namespace Go.Proofs
open Go.RowKit Go.Shelf Go.Conc Go.Ev Go.Ren Go.Inst
def G5{w w'}(e:w'.heap=w.heap):(∀a cs,Lp w a cs->Lp w' a cs)/\(∀a ws,LM w a ws->LM w' a ws)/\(∀a l,ED w a l->ED w' a l)/\(dU w->dU w'):=by cases w;cases w';dsimp only at e;subst e;exact⟨fun _ _ h=>h,fun _ _ h=>h,fun _ _ h=>h,fun h=>h⟩
structure IY(ac aw ao af:aB Addr)(cs:List (Int×Int))(ws:List IZ)(os fs:List Int)(n:Nat)(w:ay):Prop where
 c:Lp w ac cs
 wi:LM w aw ws
 o:ED w ao os
 f:ED w af fs
 hac:∀b o,ac=some ⟨b,o,none⟩->b<n
 nn:dU w
 le:n<=w.heap.size
section
variable{ac aw ao af:aB Addr}{cs:List (Int×Int)}{ws:List IZ}{os fs:List Int}{n:Nat}
theorem IY.same{w w'}(h:IY ac aw ao af cs ws os fs n w)(e:w'.heap=w.heap):IY ac aw ao af cs ws os fs n w':=⟨(G5 e).1 _ _ h.c,(G5 e).2.1 _ _ h.wi,(G5 e).2.2.1 _ _ h.o,(G5 e).2.2.1 _ _ h.f,h.hac,(G5 e).2.2.2 h.nn,by rw[e];exact h.le⟩
theorem IY.fin{w w'}(h:IY ac aw ao af cs ws os fs n w)(e:Fin w w'):IY ac aw ao af cs ws os fs n w':=⟨h.c.fin e,h.wi.fin e,h.o.fin e,h.f.fin e,h.hac,e.fD h.nn,bM h.le e.below.size⟩
end
def rf{w w1 w'}(e:w1.heap=w.heap)(h:Fin w1 w')   : Ev.mJ w w':=fun b o h1 h2 o' h3=>by
 have hb:b<w1.heap.size:=by rw[e];exact(aP.1 h1).1
 have:=h.below.block b hb;rw[h3,e,h1] at this;rw[<-aN this.symm];exact h2
def Uk[M:Mps]{L:List aI}{args}(n)(h:pJ (·∈L) args):pJ (·∈L) (args++Array.replicate n undef):=fun H H' f ha=>by rw[@vO _ H,@vO _ H',h H H' f ha];congr 1;unfold vals;rw[Array.map_replicate,Array.map_replicate,@fP _ H aj,@fP _ H' aj]
def agO{P:aH}{K:aC->List aC->ay->Prop}{f:aI}{fn:Func}{c:Code}{args:Array ae}{cs:List aC}{w:ay}(hf:P.funcs[f]?=some fn)(hb:fn.body=some c)(h:K (Frame.atR { (default:aC) with fn:=f,kind:=.normal,roundOf:=none} {tmps:=args++Array.replicate (fn.ntmps-args.size) undef,defers:=[]} [.code c]) cs w):K (Frame.enter P f args .normal) cs w:=by
 have:Frame.enter P f args .normal=Frame.atR { (default:aC) with fn:=f,kind:=.normal,roundOf:=none} {tmps:=args++Array.replicate (fn.ntmps-args.size) undef,defers:=[]} [.code c]:=by simp[Frame.enter,Frame.atR,hf,hb]
 rw[this];exact h
structure IX(n:Nat)(A B C D:Array ae)(w:ay):Prop where
 a:w.heap[n]?=some (.cells A 25 (0,0))
 b:w.heap[n+1]?=some (.cells B 27 (0,0))
 c:w.heap[n+2]?=some (.cells C 27 (0,0))
 d:w.heap[n+3]?=some (.cells D 30 (0,0))
def IX.same{n A B C D w w'}(h:IX n A B C D w)(e:w'.heap=w.heap):IX n A B C D w':=⟨by rw[e];exact h.a,by rw[e];exact h.b,by rw[e];exact h.c,by rw[e];exact h.d⟩
def IX.fin{n A B C D w w'}(h:IX n A B C D w)(e:Fin w w'):IX n A B C D w':=⟨(e.below.block _ (aP.1 h.a).1).trans h.a,(e.below.block _ (aP.1 h.b).1).trans h.b,(e.below.block _ (aP.1 h.c).1).trans h.c,(e.below.block _ (aP.1 h.d).1).trans h.d⟩
def IX.mk4{n A B C D}{w:ay}(e:w.heap.size=n):IX n A B C D ((((w.alloc (.cells A 25)).alloc (.cells B 27)).alloc (.cells C 27)).alloc (.cells D 30)):=by
 subst e;have k:∀(w:ay) (o o':Obj) (i:Nat),w.heap[i]?=some o'->(w.alloc o).heap[i]?=some o':=fun w o o' i h=>(iV _ _ _ (aP.1 h).1).trans h;have z:∀(w:ay) (o:Obj) (i:Nat),w.heap.size=i->(w.alloc o).heap[i]?=some o:=fun w o i h=>by subst h;exact iq w o
 refine⟨k _ _ _ _ (k _ _ _ _ (k _ _ _ _ (z _ _ _ rfl))),k _ _ _ _ (k _ _ _ _ (z _ _ _ (by simp))),k _ _ _ _ (z _ _ _ (by simp)),z _ _ _ (by simp)⟩
section
attribute [local go_sem] nz
open Go.Crew
attribute [local instance] fJ
def SE(f):@val fJ bY bears f undef=@val fJ bY (@aj fJ) f undef:=(@fP fJ bY bears kD f).trans (@fP fJ bY (@aj fJ) kD f).symm
def akH(P:aH)(L:List aI):ig->Bool
|.code c=>@ny iH P L c
|.inRegion ..=>true
|_=>false
def Ox{P L N fr}(h:fr.todo.all (akH P L)=true):@BI iH (@aV iH P L N) P (·∈L) fr:=fun i hi=>by have h1:=bZ.1 h i hi;cases i<;>first|(cases h1;done)|exact @Ey iH P L N _ h1|exact fun o _=>@aao iH P L N o
def Tryz.aj7{K K2 hx}(hK:@iW fJ Tryz.prog Tryz.L1 Tryz.N K)(hM:@ahf fJ Tryz.prog Tryz.L1 Tryz.N K)(hK2:@iW iH Tryz.prog Tryz.L Tryz.N K2)(hFd:@yE iH Tryz.prog Tryz.L Tryz.N K2 7 [] ⟨.nil,0,[]⟩ (.bool true) hx)(hsw:∀(fr) (v),(∀f,@vals fJ bY bears f fr.tmps=@vals fJ bY (@aj fJ) f fr.tmps)->fr.defers=[]->fr.mode=.run->fr.kind=.normal->@BI iH (@aV iH Tryz.prog Tryz.L Tryz.N) Tryz.prog (·∈Tryz.L) fr->K2 fr [bottom] (hus fJ bears v)->K fr [bottom] v)(hend:∀(fr) (w'),fr.fn=3->fr.mode=.returning->fr.defers=[]->fr.kind=.normal->fr.tmps.getD 8 undef=.bool true->K2 fr [bottom] w')(W H F e1 n1 e2 n2 e n)(ac aw ao af)(kc kw ko kf)(cs)(ws)(os fs)(v:ay)(hmc:cs.length<=9223372036854775807)(hmw:ws.length<=9223372036854775807)(hmo:os.length<=9223372036854775807)(hmf:fs.length<=9223372036854775807)(hA:IY ac aw ao af cs ws os fs v.heap.size v)(hcl:@pJ fJ (·∈Tryz.L1) #[.agg #[.int .i64 W,.int .i64 H,.int .i64 F,.slice ac cs.length kc,.slice aw ws.length kw],.agg #[.int .i64 e1,.int .i64 n1],.agg #[.int .i64 e2,.int .i64 n2],.agg #[.int .i64 e,.int .i64 n,.slice ao os.length ko,.slice af fs.length kf]]):K (Frame.enter Tryz.prog 3 #[.agg #[.int .i64 W,.int .i64 H,.int .i64 F,.slice ac cs.length kc,.slice aw ws.length kw],.agg #[.int .i64 e1,.int .i64 n1],.agg #[.int .i64 e2,.int .i64 n2],.agg #[.int .i64 e,.int .i64 n,.slice ao os.length ko,.slice af fs.length kf]] .normal) [bottom] v:=by
 have hcs:qN [bottom]:=⟨[],rfl⟩;refine agO Tryz.func3 rfl ?_;have hcl:=Uk (Tryz.f3.ntmps-4) hcl;simp only[Tryz.ntmps3,oq,List.length_cons,List.length_nil,Nat.reduceAdd,Nat.reduceSub,xG,Array.replicate_zero,uo,xE,List.nil_append,List.cons_append] at hcl⊢;refine hK.seq' hcs fun w1 q1=>?_;refine Ren.iW.piece (n:=5) hK hM Tryz.nS Tryz.SV Tryz.Yt (by kernel_rfl) (by kernel_rfl) rfl rfl rfl hcl fun t=>?_;have hA1:IY ac aw ao af cs ws os fs v.heap.size (wt w1 t):=hA.same q1;have hsz:(wt w1 t).heap.size=v.heap.size:=by show w1.heap.size=_;rw[q1]
 generalize hw2:wt w1 t=w2 at hA1 hsz⊢;refine F6.2 ?_;go_wp2_with fail;have hF:=((((Fin.refl w2).alloc #[.int .i64 W,.int .i64 H,.int .i64 F,.slice ac cs.length kc,.slice aw ws.length kw] 25).alloc #[.int .i64 e1,.int .i64 n1] 27).alloc #[.int .i64 e2,.int .i64 n2] 27).alloc #[.int .i64 e,.int .i64 n,.slice ao os.length ko,.slice af fs.length kf] 30;refine⟨rf (by rw[<-hw2];rfl) hF,fun hcl=>?_⟩;have hA:=hA1.fin hF;have hB:=IX.mk4 (A:=#[.int .i64 W,.int .i64 H,.int .i64 F,.slice ac cs.length kc,.slice aw ws.length kw]) (B:=#[.int .i64 e1,.int .i64 n1]) (C:=#[.int .i64 e2,.int .i64 n2]) (D:=#[.int .i64 e,.int .i64 n,.slice ao os.length ko,.slice af fs.length kf]) hsz;clear hF;generalize World.alloc (World.alloc (World.alloc (World.alloc w2 _) _) _) _=w3 at hA hB⊢;try simp only[hsz] at hcl⊢
 generalize v.heap.size=m at hA hB hcl⊢;clear hA1 hsz hw2 q1 w2 w1 t;refine hK.seq' hcs fun w1 q1=>?_;refine hK.seq' hcs fun w2 q2=>?_;have hA1:=(hA.same q1).same q2;have hB1:=(hB.same q1).same q2;clear hA hB q1 q2 w1 w3;refine Ren.iW.piece (n:=5) hK hM Tryz.nS Tryz.SV Tryz.Yt (by kernel_rfl) (by kernel_rfl) rfl rfl rfl hcl fun t=>?_;have hA:IY ac aw ao af cs ws os fs m (wt w2 t):=hA1.same rfl;have hB:=hB1.same (w':=wt w2 t) rfl;generalize hw1:wt w2 t=w1 at hA hB⊢;refine F6.2 ?_;have c0:=ah hB.a 0;have c1:=ah hB.a 1;have c2:=ah hB.a 2;have c3:=ah hB.a 3;have c4:=ah hB.a 4;simp at c0 c1 c2 c3 c4;have HB:=az hB;clear hB;go_wp2_with (go_at_call 6;refine(Tryz.Great W H F ac aw cs.length ws.length kc kw _ hmc hmw).mono ?_;rintro x w3 ⟨rfl,hF⟩;have d2:=ah (HB.out.fin hF).d 2;have d3:=ah (HB.out.fin hF).d 3;simp at d2 d3);all_goals refine⟨rf (by rw[<-hw1];rfl) hF,fun hcl=>?_⟩
 all_goals have hA:=hA.fin hF
 all_goals have hB:=HB.out.fin hF
 all_goals clear HB c0 c1 c2 c3 c4 d2 d3 hF
 .by_cases hfs:20<fs.length
  .refine hK.cond_true hcs (by simp[Act.eval];omega) fun w4 q4=>?_;refine hsw _ _ (fun f=>by simp only[Frame.atR,vals,tX,fU,iw,dK,dY,bI,aK,dG,cO,SE]) rfl rfl rfl (Ox (by kernel_rfl)) ?_;exact iW.adY (M:=iH) hK2 hFd rfl rfl hcs (Jo (hA.nn.same q4)) rfl rfl rfl rfl rfl rfl rfl rfl (by kernel_rfl) (by simp) (by simp) fun fr w'=>hend fr w'
  refine hK.cond_false hcs (by simp[Act.eval];omega) fun w4 q4=>?_;refine hK.skip' hcs fun w5 q5=>?_;have hA:=(hA.same q4).same q5;have hB:=(hB.same q4).same q5;refine hK.seq' hcs fun w1 q1=>?_;have hA1:=hA.same q1;have hB1:=hB.same q1;clear hA hB q1;refine Ren.iW.piece (n:=5) hK hM Tryz.nS Tryz.SV Tryz.Yt (by kernel_rfl) (by kernel_rfl) rfl rfl rfl hcl fun t=>?_;have hA:IY ac aw ao af cs ws os fs m (wt w1 t):=hA1.same rfl;have hB:=hB1.same (w':=wt w1 t) rfl;generalize hw2:wt w1 t=w2 at hA hB⊢;refine F6.2 ?_;have bx0:=ah hB.b 0;have bx1:=ah hB.b 1;simp at bx0 bx1;have cx0:=ah hB.c 0;have cx1:=ah hB.c 1;simp at cx0 cx1;have HA:=az hA;have HB:=az hB;clear hA hB;go_wp2_with (go_at_call 8;refine(Tryz.True e1 n1 e2 n2 _).mono ?_;rintro x w3 ⟨rfl,hF⟩)
  refine⟨rf (by rw[<-hw2];rfl) hF,fun hcl=>?_⟩;have hA:=HA.out.fin hF;have hB:=HB.out.fin hF;clear HA HB hF hA1 hB1 hw2 w2 w1 t bx0 bx1 cx0 cx1;refine hK.seq' hcs fun w1 q1=>?_;have hA1:=hA.same q1;have hB1:=hB.same q1;clear hA hB q1;refine Ren.iW.piece (n:=5) hK hM Tryz.nS Tryz.SV Tryz.Yt (by kernel_rfl) (by kernel_rfl) rfl rfl rfl hcl fun t=>?_;have hA:IY ac aw ao af cs ws os fs m (wt w1 t):=hA1.same rfl;have hB:=hB1.same (w':=wt w1 t) rfl;generalize hw2:wt w1 t=w2 at hA hB⊢;refine F6.2 ?_;have bx0:=ah hB.b 0;have bx1:=ah hB.b 1;simp at bx0 bx1;have cx0:=ah hB.c 0;have cx1:=ah hB.c 1;simp at cx0 cx1;have HA:=az hA;have HB:=az hB;clear hA hB;go_wp2_with (go_at_call 9;refine(Tryz.ajP e1 n1 e2 n2 _).mono ?_;rintro x w3 ⟨rfl,hF⟩)
  refine⟨rf (by rw[<-hw2];rfl) hF,fun hcl=>?_⟩;have hA:=HA.out.fin hF;have hB:=HB.out.fin hF;clear HA HB hF hA1 hB1 hw2 w2 w1 t bx0 bx1 cx0 cx1;refine hK.seq' hcs fun w1 q1=>?_;have hA1:=hA.same q1;have hB1:=hB.same q1;clear hA hB q1;refine Ren.iW.piece (n:=5) hK hM Tryz.nS Tryz.SV Tryz.Yt (by kernel_rfl) (by kernel_rfl) rfl rfl rfl hcl fun t=>?_;have hA:IY ac aw ao af cs ws os fs m (wt w1 t):=hA1.same rfl;have hB:=hB1.same (w':=wt w1 t) rfl;generalize hw2:wt w1 t=w2 at hA hB⊢;refine F6.2 ?_;have ax0:=ah hB.a 0;have ax1:=ah hB.a 1;have ax2:=ah hB.a 2;have ax3:=ah hB.a 3;have ax4:=ah hB.a 4;simp at ax0 ax1 ax2 ax3 ax4;have dx0:=ah hB.d 0;have dx1:=ah hB.d 1;have dx2:=ah hB.d 2;have dx3:=ah hB.d 3;simp at dx0 dx1 dx2 dx3;have HA:=az hA;have HB:=az hB;clear hA hB;go_wp2_with (go_at_call 10;refine(Tryz.ajh W H F e n ac aw ao af kc kw ko kf cs ws os fs _ hmc hmw hmo hmf HA.out.c HA.out.wi HA.out.o HA.out.f (fun b o h=>bT (HA.out.hac b o h) HA.out.le)).mono ?_;rintro x w3 ⟨rfl,hF⟩)
  refine⟨rf (by rw[<-hw2];rfl) hF,fun hcl=>?_⟩;have hA:=HA.out.fin hF;have hB:=HB.out.fin hF;clear HA HB hF hA1 hB1 hw2 w2 w1 t ax0 ax1 ax2 ax3 ax4 dx0 dx1 dx2 dx3;refine hK.seq' hcs fun w1 q1=>?_;have hA1:=hA.same q1;have hB1:=hB.same q1;clear hA hB q1;refine Ren.iW.piece (n:=5) hK hM Tryz.nS Tryz.SV Tryz.Yt (by kernel_rfl) (by kernel_rfl) rfl rfl rfl hcl fun t=>?_;have hA:IY ac aw ao af cs ws os fs m (wt w1 t):=hA1.same rfl;have hB:=hB1.same (w':=wt w1 t) rfl;generalize hw2:wt w1 t=w2 at hA hB⊢;refine F6.2 ?_;have ax0:=ah hB.a 0;have ax1:=ah hB.a 1;have ax2:=ah hB.a 2;have ax3:=ah hB.a 3;have ax4:=ah hB.a 4;simp at ax0 ax1 ax2 ax3 ax4;have dx0:=ah hB.d 0;have dx1:=ah hB.d 1;have dx2:=ah hB.d 2;have dx3:=ah hB.d 3;simp at dx0 dx1 dx2 dx3;have HA:=az hA;have HB:=az hB;clear hA hB;go_wp2_with (go_at_call 11;refine(Tryz.afW W H F e n ac aw ao af kc kw ko kf cs ws os fs _ hmc hmw hmo hmf HA.out.c HA.out.wi HA.out.o HA.out.f).mono ?_;rintro x w3 ⟨rfl,hF⟩;rw[<-akc])
  refine⟨rf (by rw[<-hw2];rfl) hF,fun hcl=>?_⟩;have hA:=HA.out.fin hF;have hB:=HB.out.fin hF;clear HA HB hF hA1 hB1 hw2 w2 w1 t ax0 ax1 ax2 ax3 ax4 dx0 dx1 dx2 dx3;generalize (EF e1 n1 e2 n2).1=x0 at hcl⊢;generalize (EF e1 n1 e2 n2).2=x1 at hcl⊢;generalize (Go.Proofs.isV W H F cs ws e n os fs).1=x2 at hcl⊢;generalize (Go.Proofs.isV W H F cs ws e n os fs).2=x3 at hcl⊢;refine hK.seq' hcs fun w1 q1=>?_;have hA1:=hA.same q1;have hB1:=hB.same q1;clear hA hB q1;refine Ren.iW.acU (n:=5) (m:=26) hK hM Tryz.nS Tryz.SV Tryz.Yt (fun _=>by kernel_rfl) (by kernel_rfl) (by kernel_rfl) rfl rfl rfl hcl fun t=>?_;have hA:IY ac aw ao af cs ws os fs m (wt w1 t):=hA1.same rfl;have hB:=hB1.same (w':=wt w1 t) rfl;generalize hw2:wt w1 t=w2 at hA hB⊢;refine F6.2 ?_;simp only[List.take_succ_cons,List.take_zero];have a0:=ah hB.a 0;have a1:=ah hB.a 1;have a2:=ah hB.a 2;have a3:=ah hB.a 3;have a4:=ah hB.a 4;simp at a0 a1 a2 a3 a4;have HA:=az hA;have HB:=az hB;clear hA hB hA1 hB1;go_region_held3 (fun w'=>Fin w2 w'/\w'.cell? ⟨m,0,none⟩=some (.int .i64 W)/\w'.cell? ⟨m,1,none⟩=some (.int .i64 H)/\w'.cell? ⟨m,2,none⟩=some (.int .i64 F)/\w'.cell? ⟨m,3,none⟩=some (.slice ac cs.length kc)/\w'.cell? ⟨m,4,none⟩=some (.slice aw ws.length kw))
   (first|(refine⟨?_,?_,?_,?_,?_,?_⟩<;>first|assumption|exact Fin.refl _|exact(Fin.refl _).drew))
   (first|(go_at_call 12;refine(Tryz.aji W H F ac aw kc kw cs ws _ hmc hmw (HA.out.c.fin (by first|assumption|exact(Fin.refl _).drew|exact Fin.refl _)) (HA.out.wi.fin (by first|assumption|exact(Fin.refl _).drew|exact Fin.refl _))).mono ?_;rintro x w3 ⟨rfl,hF3⟩;have hA:Fin w2 w3:=Fin.trans (by first|assumption|exact(Fin.refl _).drew|exact Fin.refl _) hF3;have T3:=HB.out.fin hA;have a0:=ah T3.a 0;have a1:=ah T3.a 1;have a2:=ah T3.a 2;have a3:=ah T3.a 3;have a4:=ah T3.a 4;simp at a0 a1 a2 a3 a4;clear T3 hF3)|(go_at_call 13;refine(Tryz.Tm W H F ac aw kc kw cs ws _ hmc hmw (HA.out.c.fin (by first|assumption|exact(Fin.refl _).drew|exact Fin.refl _)) (HA.out.wi.fin (by first|assumption|exact(Fin.refl _).drew|exact Fin.refl _))).mono ?_;rintro x w3 ⟨rfl,hF3⟩;have hA:Fin w2 w3:=Fin.trans (by first|assumption|exact(Fin.refl _).drew|exact Fin.refl _) hF3;have T3:=HB.out.fin hA;have a0:=ah T3.a 0;have a1:=ah T3.a 1;have a2:=ah T3.a 2;have a3:=ah T3.a 3;have a4:=ah T3.a 4;simp at a0 a1 a2 a3 a4;clear T3 hF3))
  refine⟨rfl,rf (by rw[<-hw2];rfl) hA,fun _=>?_⟩;refine hsw _ _ (fun f=>by simp only[Frame.atR,vals,tX,fU,iw,dK,dY,bI,aK,dG,cO,SE]) rfl rfl rfl (Ox (by kernel_rfl)) ?_;exact iW.adZ (M:=iH) hK2 (m:=26) (c:=81) (d:=82) (p:=83) (e:=8) hFd rfl rfl hcs (Jo ((HA.out.fin hA).nn)) rfl rfl rfl rfl rfl (by simp[Region.wanted,yielded]) rfl rfl rfl rfl rfl (by kernel_rfl) rfl rfl rfl (by kernel_rfl) (by simp[Act.eval]) (by decide) (by simp) (by simp) (by simp) fun fr w'=>hend fr w'
 all_goals (refine hK.cond_true hcs (by simp[Act.eval]<;>omega) fun w4 q4=>?_;refine hsw _ _ (fun f=>by simp only[Frame.atR,vals,tX,fU,iw,dK,dY,bI,aK,dG,cO,SE]) rfl rfl rfl (Ox (by kernel_rfl)) ?_;exact iW.adY (M:=iH) hK2 hFd rfl rfl hcs (Jo (hA.nn.same q4)) rfl rfl rfl rfl rfl rfl rfl rfl (by kernel_rfl) (by simp) (by simp) fun fr w'=>hend fr w')
end
end Go.Proofs
namespace Go.Proofs.Tryz
set_option maxRecDepth 100000
open Go.RowKit Go.Shelf Go.Conc Go.Ev Go.Ren Go.Inst Go.Crew
def law_good:@aG fJ (@aV fJ prog L1 N) prog (·∈L1) (Frame.enter prog 3 #[] .normal):=by
 obtain⟨c,hb,hcl⟩:∃c,f3.body=some c/\@ny fJ prog L1 c=true:=⟨_,rfl,by kernel_rfl⟩;refine @aG.mk fJ (@aV fJ prog L1 N) prog (·∈L1) (Frame.enter prog 3 #[] .normal) (fun it hit=>?_) (fun d hd=>(by simp[Frame.enter] at hd)) trivial (.inl rfl);have:it=.code c:=by simp only[Frame.enter,func3] at hit;simpa[hb] using hit
 subst this;exact @Ey fJ prog L1 N c hcl
def Kept(W W':ay):Prop:=(∀i,i<W.heap.size->W'.heap[i]?=W.heap[i]?)/\∀may,W.keptBut W' may
def adB(W H F e1 n1 e2 n2 e n:Int)(ac aw ao af:aB Addr)(kc kw ko kf:Nat)(cs:List (Int×Int))(ws:List IZ)(os fs:List Int)(w:ay)(hmc:cs.length<=9223372036854775807)(hmw:ws.length<=9223372036854775807)(hmo:os.length<=9223372036854775807)(hmf:fs.length<=9223372036854775807)(h1:Lp w ac cs)(h2:LM w aw ws)(h3:ED w ao os)(h4:ED w af fs)(b1:∀x,ac=some x->x.block∈enum w)(b2:∀x,aw=some x->x.block∈enum w)(b3:∀x,ao=some x->x.block∈enum w)(b4:∀x,af=some x->x.block∈enum w):oO prog (fun v w'=>v=.bool true/\Kept w w') (solo (Conc.G (Frame.enter prog 3 #[.agg #[.int .i64 W,.int .i64 H,.int .i64 F,.slice ac cs.length kc,.slice aw ws.length kw],.agg #[.int .i64 e1,.int .i64 n1],.agg #[.int .i64 e2,.int .i64 n2],.agg #[.int .i64 e,.int .i64 n,.slice ao os.length ko,.slice af fs.length kf]] .normal) []) w) #[]:=by
 have hg0:prog.globals.size=0:=by kernel_rfl
 have hin:prog.inits.idxOf? 3=none:=by kernel_rfl
 refine @KM.XG fJ bears (@aV fJ prog L1 N) prog (·∈L1) _ (fun x hx=>aY hx) SV 3 (.inr law_good) _ w (by omega) (fun g hg=>absurd hg (by omega)) (fun x hx=>?_) ?_
 .have hx':x∈[Value.agg #[.int .i64 W,.int .i64 H,.int .i64 F,.slice ac cs.length kc,.slice aw ws.length kw],.agg #[.int .i64 e1,.int .i64 n1],.agg #[.int .i64 e2,.int .i64 n2],.agg #[.int .i64 e,.int .i64 n,.slice ao os.length ko,.slice af fs.length kf]]:=by simpa using hx
  simp only[dW,xx,xw] at hx';rcases hx' with rfl|rfl|rfl|rfl<;>refine abG (M:=fJ) (E:=bears) fun x hx=>?_<;>simp only[xH,dW,xx,xw] at hx
  .rcases hx with rfl|rfl|rfl|rfl|rfl<;>first|exact zU (M:=fJ) (E:=bears) _ _|exact yj (M:=fJ) (E:=bears) b1|exact yj (M:=fJ) (E:=bears) b2
  .rcases hx with rfl|rfl<;>exact zU (M:=fJ) (E:=bears) _ _
  .rcases hx with rfl|rfl<;>exact zU (M:=fJ) (E:=bears) _ _
  rcases hx with rfl|rfl|rfl|rfl<;>first|exact zU (M:=fJ) (E:=bears) _ _|exact yj (M:=fJ) (E:=bears) b3|exact yj (M:=fJ) (E:=bears) b4
 have e0:@vals fJ bY (@aj fJ) (down w) #[.agg #[.int .i64 W,.int .i64 H,.int .i64 F,.slice ac cs.length kc,.slice aw ws.length kw],.agg #[.int .i64 e1,.int .i64 n1],.agg #[.int .i64 e2,.int .i64 n2],.agg #[.int .i64 e,.int .i64 n,.slice ao os.length ko,.slice af fs.length kf]] =
   #[.agg #[.int .i64 W,.int .i64 H,.int .i64 F,.slice (ac.map (addr (down w))) cs.length kc,.slice (aw.map (addr (down w))) ws.length kw],.agg #[.int .i64 e1,.int .i64 n1],.agg #[.int .i64 e2,.int .i64 n2],.agg #[.int .i64 e,.int .i64 n,.slice (ao.map (addr (down w))) os.length ko,.slice (af.map (addr (down w))) fs.length kf]]:=by
  simp[vals]
 rw[e0];have hfit:agG Ye 7 [] ⟨.nil,0,[]⟩=true:=by kernel_rfl
 have hv:Ye.v=.bool true:=rfl;have fd0:XC [Ye] 7 [] ⟨.nil,0,[]⟩=some (.bool true,Ye.out ⟨.nil,0,[]⟩):=by
  show(match agG Ye 7 [] ⟨.nil,0,[]⟩ with
   |true=>some (Ye.v,Ye.out ⟨.nil,0,[]⟩)
   |false=>none)=_
  rw[hfit,hv]
 have fd:@yE iH prog L N (@KM iH aj (@aV iH prog L N) prog (·∈L) (all w) w (fun v w'=>v=.bool true/\Kept w w')) 7 [] ⟨.nil,0,[]⟩ (.bool true) (Ye.out ⟨.nil,0,[]⟩):=(ivF OB).many 7 [] _ _ _ (by decide) fd0;refine aj7 (K:=@KM fJ bears (@aV fJ prog L1 N) prog (·∈L1) (all w) w (fun v w'=>v=.bool true/\Kept w w')) (K2:=@KM iH aj (@aV iH prog L N) prog (·∈L) (all w) w (fun v w'=>v=.bool true/\Kept w w'))
  (@AZ fJ bears _ _ _ nS SV _ _ _) (@ags fJ bears _ _ _ _ _ _) (@AZ iH aj _ _ _ nS sok _ _ _) fd
  (fun fr v ht hd hm hk hi h=>KM.hand ale ht hd hm hk hi h) (fun fr w' e1 e2 e3 e4 e5=>?_) W H F e1 n1 e2 n2 e n _ _ _ _ kc kw ko kf cs ws os fs _ hmc hmw hmo hmf ⟨agm (M:=fJ) (E:=bears) h1,agl (M:=fJ) (E:=bears) h2,ZY (M:=fJ) (E:=bears) h3,ZY (M:=fJ) (E:=bears) h4,fun b o hb=>?_,abC (M:=fJ) (E:=bears) _,aA _⟩ ?_
 .refine @KM.ends (@aV iH prog L N) prog (·∈L) _ _ _ fr w' f3 8 (by rw[e1];exact func3) rfl (by rw[e1];exact hin) e2 e3 e4 fun f w d hR=>⟨?_,fun i hi=>hR.keep i hi (.inl hi),fun may=>LC hR d may⟩;rw[e5];exact cu rfl f
 .cases ac with
  |none=>cases hb
  |some x=>
   simp only[Option.map_some,kG] at hb;rw[zZ,@pR fJ bears];have:b=down w x.block:=by rw[<-(Addr.mk.inj hb).1]
   rw[this];exact UI (b1 x rfl)
 exact fun H H' f ha=>by simp[vals]
end Go.Proofs.Tryz
