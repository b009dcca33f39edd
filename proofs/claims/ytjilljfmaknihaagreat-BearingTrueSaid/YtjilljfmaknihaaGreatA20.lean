import Derived.RangeFuncNested
import Derived.Test.YtjilljfmaknihaaGreatA15
set_option linter.all false
namespace Go
def iq:=@Go.World.alloc_heap_new
def iV:=@Go.RowKit.Below.heap_alloc
def PN:=@Go.RowKit.Below.refl
end Go
namespace Go
open Go.RowKit Go.Ev
section
structure dm(B:Nat)(A A':ay):Prop where
 below:Below B A A'
 fD:dU A->dU A'
def dm.mono{B B' A A'}(h:dm B A A')(hB:B'<=B):dm B' A A':=⟨h.below.mono hB,h.fD⟩
def dm.trans{B A A' C}(h:dm B A A')(h':dm B A' C):dm B A C:=⟨h.below.trans h'.below,fun hn=>h'.fD (h.fD hn)⟩
def dm.obj{B A}(hB:B<=A.heap.size){o}(ho:TJ o=false):dm B A (A.alloc o):=⟨(PN _ _).alloc hB _,fun hn=>hn.push rfl ho⟩
def dU.putObj{A}(h:dU A){l:Nat}{o:Obj}(ho:TJ o=false):dU (A.putObj l o):=fun x o' hx=>by
 by_cases e:x=l
 .subst e;by_cases hlt:x<A.heap.size
  .rw[World.putObj_heap_same hlt] at hx;cases hx;exact ho
  have:=(aP.1 hx).1;simp at this;omega
 rw[World.putObj_heap_other e] at hx;exact h x o' hx
def dm.put{B l A}(hl:B<=l){o}(ho:TJ o=false):dm B A (A.putObj l o):=⟨⟨rfl,rfl,rfl,by simp,fun k hk=>World.putObj_heap_other (by omega)⟩,fun hn=>dU.putObj hn ho⟩
def Bdy(X:Nat->Prop)(A B:ay):Prop:=A.heap.size<=B.heap.size/\∀(k:Nat) (o:Obj),¬X k->A.heap[k]?=some o->B.heap[k]?=some o
def Bdy.refl(X)(A):Bdy X A A:=⟨aA _,fun _ _ _ h=>h⟩
def qL(X:Nat->Prop)(A B:ay):Prop:=A.heap.size<=B.heap.size/\∀(k:Nat) (o:Obj),¬X k->A.heap[k]?=some o->o.isCells=true->B.heap[k]?=some o
def Bdy.ahz{X}{A B:ay}(h:Bdy X A B):qL X A B:=⟨h.1,fun k o hx hk _=>h.2 k o hx hk⟩
def qL.trans{X A B C}(h:qL X A B)(h':qL X B C):qL X A C:=⟨bM h.1 h'.1,fun k o hx hk hc=>h'.2 k o hx (h.2 k o hx hk hc) hc⟩
def qL.put{X A l o o'}(hl:A.heap[l]?=some o)(ho:o.isCells=false):qL X A (A.putObj l o'):=⟨by simp,fun k o1 _ hk hc=>by rw[World.putObj_heap_other fun e=>by subst e;rw[hl] at hk;cases hk;rw[ho] at hc;cases hc];exact hk⟩
def afa{α:Type}(F:Fence)(n:Nat)(P:aH)(g:Nat)(lb:Array ae)(encs:α->Array ae)(X:Nat->Prop)(S Sp:List α->Prop)(w:ay):Prop:=∀(l:Nat) (J Jx:List α->ay->Prop) (W:ay),Below w.heap.size w W->(∀pre A A',J pre A->dm W.heap.size A A'->J pre A')->(∀pre A A',Jx pre A->dm W.heap.size A A'->Jx pre A')->(∀pre x W1,J pre W1->YieldAt F (n-1) P l (encs x) W1 fun e W'=>(e=.returned (.bool true)/\J (pre++[x]) W'/\qL X W1 W')\/(e=.returned (.bool false)/\Jx (pre++[x]) W'))->J [] W->CallsIn F n P g (#[.func (.yield l) #[] #[]]++lb) W fun e W'=>(∃v,e=.returned v)/\((∃xs,S xs/\J xs W')\/(∃pre,Sp pre/\Jx pre W'))
def akE{α:Type}(X:Nat->Prop)(I:List α->ay->Prop)(Ix:Code->List α->ay->Prop)(xs:List α)(W:ay):Exit->Act->ay->Prop
|.normal,_,W'=>Bdy X W W'/\I xs W'
|.ret,_,W'=>Bdy X W W'/\Ix .ret xs W'
|.exit id,_,W'=>Bdy X W W'/\Ix (.exit id) xs W'
|.goto t,_,W'=>Bdy X W W'/\Ix (.goto t) xs W'
|.panic _,_,_=>False
|.outgrown,_,_=>False
variable{F:Fence}{n:Nat}{P:aH}
theorem GH{α:Type}{g ps assign body Q a w}(hro:F.round=none)(h1:1<=n){gf lb}(hg:a.eval g=.func (.func gf) #[] lb)(hFg:F.fn gf)(eg:∀args w,(callFunc gf args).run P w=.ok (.enter gf args) w){encs X S Sp w0}(hseq:afa F (n-1) P gf lb encs X S Sp w0)(hX:∀k,X k->k<w.heap.size)(hb0:Below w0.heap.size w0 w)(hps:∀x,(encs x).size=ps.size)(I)(Ix)(hI:∀pre A A',I pre A->dm w.heap.size A A'->I pre A')(hIx:∀c pre A A',Ix c pre A->dm w.heap.size A A'->Ix c pre A')(h0:I [] w)(hround:∀(l) (pre) (x) (W),w.heap.size<=W.heap.size->I pre W->assign.wpIn (F.inRound l) (n-1-1) P (Exit.then (fun a' Wa=>Bdy X W Wa/\∀Wb,dm w.heap.size Wa Wb->qL (fun _=>False) Wa Wb->body.wpIn (F.inRound l) (n-1-1) P (akE X I Ix (pre++[x]) Wb) a' Wb) (fun _ _ _=>False)) {tmps:=(ps.zip (encs x)).foldl (fun t (p,v)=>t.setIfInBounds p v) a.tmps,defers:=[]} W)(hdone:∀(xs) (W),S xs->I xs W->W.heap[w.heap.size]?=some (.deferred (some []))->Q .normal {a with defers:={target:=.collected w.heap.size,args:=#[]}::a.defers} W)(hstop:∀(c) (pre:List α) (W:ay),Sp pre->Ix c pre W->W.heap[w.heap.size]?=some (.deferred (some []))->c.wpIn F n P Q {a with defers:={target:=.collected w.heap.size,args:=#[]}::a.defers} W):(Code.rangeFunc g ps assign body).wpIn F n P Q a w:=by
 refine wpIn_rangeFunc fun fn hfn=>?_;rw[hro];let xO:LoopState->aB Code->Loop:=fun st pe=>{state:=st,pending:=pe,fn:=fn,tmps:=a.tmps,params:=ps,assign:=assign,body:=body,defers:=w.heap.size};let wD:=w.alloc (.deferred (some []));let wL:=wD.alloc (.loop (xO .ready none));have sD:wD.heap.size=w.heap.size+1:=by simp[wD]
 have sL:wL.heap.size=w.heap.size+2:=by simp[wL,sD]
 have gL:wL.heap[w.heap.size+1]?=some (.loop (xO .ready none)):=by rw[<-sD];exact iq wD _
 have gD:wL.heap[w.heap.size]?=some (.deferred (some [])):=(iV _ _ _ (by omega)).trans (iq w _);have tD:dm w.heap.size w wD:=dm.obj (aA _) rfl;have tL:dm w.heap.size wD wL:=dm.obj (by omega) rfl;have tW:=tD.trans tL;refine⟨w.heap.size+1,[{target:=.collected w.heap.size,args:=#[]}],wL,{target:=.fn (.func gf) lb,args:=#[.func (.yield (w.heap.size+1)) #[] #[]]},wL,gf,#[.func (.yield (w.heap.size+1)) #[] #[]]++lb,wL,run_enterLoop_outer _ _ _ _ _,?_,?_,?_,fun _=>h1,?_⟩
 .simp only[resolve,hg];simp[go_sem]
 .intro f' hf';simp[Target.leads] at hf';subst hf';exact hFg
 .simp[invoke,go_sem,eg]
 let Bk:ay->LoopState->aB Code->Prop:=fun W st pe=>W.heap[w.heap.size+1]?=some (.loop (xO st pe))/\W.heap[w.heap.size]?=some (.deferred (some []));have hBk:∀{A A':ay} {st:LoopState} {pe:aB Code},Bk A st pe->dm wL.heap.size A A'->Bk A' st pe:=fun hb hs=>⟨(hs.below.block _ (by omega)).trans hb.1,(hs.below.block _ (by omega)).trans hb.2⟩;have hnX:∀k,w.heap.size<=k->¬X k:=fun k hk hx=>by have:=hX k hx;omega
 refine(hseq (w.heap.size+1) (fun pre W=>I pre W/\Bk W .ready none/\w.heap.size<=W.heap.size) (fun pre W=>∃c,Ix c pre W/\Bk W .done (some c)) wL (hb0.trans (tW.below.mono hb0.size))
  (fun pre A A' hj hs=>⟨hI pre A A' hj.1 (hs.mono (by omega)),hBk hj.2.1 hs,bM hj.2.2 hs.below.size⟩)
  (fun pre A A' ⟨c,hc,hb⟩ hs=>⟨c,hIx c pre A A' hc (hs.mono (by omega)),hBk hb hs⟩) ?_ ⟨hI _ _ _ h0 tW,⟨gL,gD⟩,by omega⟩).mono ?_
 .rintro pre x W ⟨hi,hb,hsz⟩;have hy:=run_yield (P:=P) (args:=encs x) hb.1 (hps x);refine⟨fn,_,assign,body,hy,roundIn_of_wpIn hfn (wpIn_mono (hround (w.heap.size+1) pre x W hsz hi) ?_)⟩;rintro e a' Wa hp;cases e with
  |normal=>
   have⟨hba,hbody⟩:=hp;have hl:Wa.heap[w.heap.size+1]?=some (.loop (xO .ready none)):=hba.2 _ _ (hnX _ (by omega)) hb.1;have hd:Wa.heap[w.heap.size]?=some (.deferred (some [])):=hba.2 _ _ (hnX _ (by omega)) hb.2;have hlt:w.heap.size+1<Wa.heap.size:=(aP.1 hl).1;refine⟨_,run_beginRound hl rfl,?_⟩;let Wb:=Wa.putObj (w.heap.size+1) (.loop (xO .busy none));have hlb:Wb.heap[w.heap.size+1]?=some (.loop (xO .busy none)):=World.putObj_heap_same hlt;have hdb:Wb.heap[w.heap.size]?=some (.deferred (some [])):=(World.putObj_heap_other (by omega)).trans hd;have kab:qL X Wa Wb:=qL.put hl rfl;refine wpIn_mono (hbody Wb (dm.put (by omega) rfl) (qL.put hl rfl)) ?_;have fin:∀(jump:aB Code) (W3:ay),Bdy X Wb W3->(Instr.endRound (w.heap.size+1) jump).run P W3=.ok (.bool jump.isNone) (W3.putObj (w.heap.size+1) (.loop (xO (if jump.isNone then .ready else .done) jump)))/\Bk (W3.putObj (w.heap.size+1) (.loop (xO (if jump.isNone then .ready else .done) jump))) (if jump.isNone then .ready else .done) jump/\qL X W (W3.putObj (w.heap.size+1) (.loop (xO (if jump.isNone then .ready else .done) jump)))/\
     dm w.heap.size W3 (W3.putObj (w.heap.size+1) (.loop (xO (if jump.isNone then .ready else .done) jump))):=fun jump W3 hk=>by
    have hl3:=hk.2 _ _ (hnX _ (by omega)) hlb;have hd3:=hk.2 _ _ (hnX _ (by omega)) hdb;exact⟨run_endRound (P:=P) jump hl3,⟨World.putObj_heap_same (aP.1 hl3).1,(World.putObj_heap_other (by omega)).trans hd3⟩,((hba.ahz.trans kab).trans hk.ahz).trans (qL.put hl3 rfl),dm.put (by omega) rfl⟩
   have hszb:w.heap.size<=Wb.heap.size:=by simp[Wb];omega
   rintro e a3 W3 hp;cases e with
   |normal=>
   have⟨r1,r2,r3,r4⟩:=fin none W3 hp.1;exact⟨_,_,r1,.inl ⟨rfl,⟨hI _ _ _ hp.2 r4,r2,by rw[World.putObj_size];exact bM hszb hp.1.1⟩,r3⟩⟩
   |ret=>
   have⟨r1,r2,r3,r4⟩:=fin (some .ret) W3 hp.1;exact⟨_,_,r1,.inr ⟨rfl,.ret,hIx _ _ _ _ hp.2 r4,r2⟩⟩
   |exit id=>
   have⟨r1,r2,r3,r4⟩:=fin (some (.exit id)) W3 hp.1;exact⟨_,_,r1,.inr ⟨rfl,.exit id,hIx _ _ _ _ hp.2 r4,r2⟩⟩
   |goto t=>
   have⟨r1,r2,r3,r4⟩:=fin (some (.goto t)) W3 hp.1;exact⟨_,_,r1,.inr ⟨rfl,.goto t,hIx _ _ _ _ hp.2 r4,r2⟩⟩
   |panic ch=>exact hp.elim
   |outgrown=>exact hp.elim
  |ret=>exact hp.elim
  |exit id=>exact hp.elim
  |goto t=>exact hp.elim
  |panic ch=>exact hp.elim
  |outgrown=>exact hp.elim
 rintro e W2 ⟨⟨v,rfl⟩,(⟨xs,hS,hi,hb,_⟩|⟨pre,hSp,c,hi,hb⟩)⟩
 .exact⟨none,_,run_endLoop (P:=P) hb.1 (by simp[xO]),hdone xs _ hS (hI _ _ _ hi (dm.put (by omega) rfl)) ((World.putObj_heap_other (by omega)).trans hb.2)⟩
 exact⟨some c,_,run_endLoop (P:=P) hb.1 (by simp[xO]),hstop c pre _ hSp (hIx _ _ _ _ hi (dm.put (by omega) rfl)) ((World.putObj_heap_other (by omega)).trans hb.2)⟩
end
end Go
