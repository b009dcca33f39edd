import Derived.Conc.CrowdStepC2
import Derived.Conc.CrowdComm
import Derived.Test.YthhhncgnnnhkmaaGreatA12
set_option linter.all false
namespace Go.Crew
open Go.Conc Go.ConcN Go.Ren
open Go.ConcR (KK wgBlock WgAt stA smA rd wr mk Bk g_of_ofEvents ofEvent_mk bk_of_mute ofEvent_loc_mark deafBehind_cons deafBehind_one)
section
class Hidden where
 ch:Nat→Prop
instance(priority:=low) noneHidden:Hidden:=⟨fun _=>False⟩
variable[Hidden]
abbrev Pay:=Value→World→(Nat→Prop)→Prop
def Live(ty:TypeId)(Wg Ch:Nat)(w:World):Prop:=(∃st sm,WgAt ty Wg w st sm)∧∃cap buf s r tm,w.heap[Ch]?=some (.chan cap buf false s r tm)
section
variable(P:Program)(ty:TypeId)(Wg Ch:Nat)(Ro:Nat→Prop)
abbrev Stops:=Goroutine→World→(Nat→Prop)→Prop
def kQ(Stop:Stops):Kind:=⟨true,fun _=>False,Stop⟩
def kN(Stop:Stops):Kind:=⟨false,fun e=>∃b,Hidden.ch b∧Look b e,Stop⟩
def kM(Stop:Stops):Kind:=⟨false,fun e=>(∃a:Addr,(e.loc=.mark (.read a)∨e.loc=.mark (.write a))∧a.block=Wg) ∨ ∃b,Hidden.ch b∧Look b e,Stop⟩
def SD4:Stops:=fun g w _=>
 mayWake P g=true∧(WgAt ty Wg w 0 0→∃g',stepG P false g w=.go g' (w.setCell (smA Wg) (.int .u32 1)) (semEvents (smA Wg))∧∃q,QuitsD P q 1 g')
def SD3:Stops:=fun g w own=>
 WgAt ty Wg w 1 0→∃g',stepG P false g w=.go g' (w.setCell (stA Wg) (.int .u64 0)) #[wr (stA Wg)]∧OnWay P Ro (Live ty Wg Ch) false (kQ (SD4 P ty Wg)) ⟨g',w.setCell (stA Wg) (.int .u64 0),own⟩
def SD2:Stops:=fun g w own=>
 WgAt ty Wg w 1 0→∃g',stepG P false g w=.go g' w #[rd (stA Wg)]∧OnWay P Ro (Live ty Wg Ch) false (kQ (SD3 P ty Wg Ch Ro)) ⟨g',w,own⟩
def SD1:Stops:=fun g w own=>
 ∀v wt:Nat,wt≤1→v<2147483647→WgAt ty Wg w ((v+1)*KK+wt) 0 →
  ∃g',stepG P false g w=.go g' (w.setCell (stA Wg) (.int .u64 (v*KK+wt))) #[rd (stA Wg),wr (stA Wg)] ∧
   ((v=0∧wt=1)→OnWay P Ro (Live ty Wg Ch) false (kQ (SD2 P ty Wg Ch Ro)) ⟨g',w.setCell (stA Wg) (.int .u64 (v*KK+wt)),own⟩)∧(¬(v=0∧wt=1)→∃q,QuitsD P q 1 g')
def SK1:Stops:=fun g w own=>∃g',stepG P false g w=.go g' w #[mk .disable]∧OnWay P Ro (Live ty Wg Ch) false (kQ (SD1 P ty Wg Ch Ro)) ⟨g',w,own⟩
def SR0:Stops:=fun g w own=>∃g',stepG P false g w=.go g' w #[mk (.releaseMerge (stA Wg))]∧OnWay P Ro (Live ty Wg Ch) false (kQ (SK1 P ty Wg Ch Ro)) ⟨g',w,own⟩
def SPay(pay:Option Pay):Stops:=fun g w own=>
 match pay with
 |some p=>∃v z,p v w own∧stepG P false g w=.comm g #[scase Ch v z] true .send w #[]∧OnWay P Ro (Live ty Wg Ch) false (kQ (SR0 P ty Wg Ch Ro)) ⟨Conc.served g undef,w,own⟩
 |none=>SR0 P ty Wg Ch Ro g w own
def wKind(pay:Option Pay)(paid:Bool):Nat→Option Kind
 |7=>some (if paid then kQ (SR0 P ty Wg Ch Ro) else kN (SPay P ty Wg Ch Ro pay))
 |6=>some (kQ (SK1 P ty Wg Ch Ro))
 |5=>some (kQ (SD1 P ty Wg Ch Ro))
 |4=>some (kQ (SD2 P ty Wg Ch Ro))
 |3=>some (kQ (SD3 P ty Wg Ch Ro))
 |2=>some (kQ (SD4 P ty Wg))
 |_=>none
variable(n:Nat)(Anch Done:Stops)(pay:Nat→Option Pay)
def SAcq:Stops:=fun g w own=>∃g',stepG P true g w=.go g' w #[mk (.acquire (stA Wg))]∧g'.status=.running∧Done g' w own
def SKe:Stops:=fun g w own=>∃g',stepG P true g w=.go g' w #[mk .enable]∧OnWay P Ro (Live ty Wg Ch) true (kM Wg (SAcq P Wg Done)) ⟨g',w,own⟩
def SW4:Stops:=fun g w own=>WgAt ty Wg w 0 0→∃g',stepG P true g w=.go g' w #[rd (stA Wg)]∧OnWay P Ro (Live ty Wg Ch) true (kM Wg (SKe P ty Wg Ch Ro Done)) ⟨g',w,own⟩
def SW3:Stops:=fun g w own=>
 g.status=.running∧g.offers=none ∧
  ((∃st,WgAt ty Wg w st 0)→stepG P true g w=.go {g with status:=.blocked} w #[]) ∧
  (WgAt ty Wg w 0 1→∃g',stepG P true g w=.go g' (w.setCell (smA Wg) (.int .u32 0)) (semEvents (smA Wg))∧OnWay P Ro (Live ty Wg Ch) true (kM Wg (SW4 P ty Wg Ch Ro Done)) ⟨g',w.setCell (smA Wg) (.int .u32 0),own⟩)
def SW2(vs:Nat):Stops:=fun g w own=>∀v:Nat,v<2147483648→WgAt ty Wg w (v*KK) 0 →
  (v=vs→∃g',stepG P true g w=.go g' (w.setCell (stA Wg) (.int .u64 (v*KK+1))) #[rd (stA Wg),wr (stA Wg)]∧OnWay P Ro (Live ty Wg Ch) true (kM Wg (SW3 P ty Wg Ch Ro Done)) ⟨g',w.setCell (stA Wg) (.int .u64 (v*KK+1)),own⟩) ∧
  (v≠vs→∃g',stepG P true g w=.go g' w #[rd (stA Wg)]∧OnWay P Ro (Live ty Wg Ch) true (kM Wg Anch) ⟨g',w,own⟩)
def SW1:Stops:=fun g w own=>∀v:Nat,v<2147483648→WgAt ty Wg w (v*KK) 0→∃g',stepG P true g w=.go g' w #[rd (stA Wg)] ∧
  (v=0→OnWay P Ro (Live ty Wg Ch) true (kM Wg (SKe P ty Wg Ch Ro Done)) ⟨g',w,own⟩)∧(v≠0→OnWay P Ro (Live ty Wg Ch) true (kM Wg (SW2 P ty Wg Ch Ro Anch Done v)) ⟨g',w,own⟩)
def SKd:Stops:=fun g w own=>∃g',stepG P true g w=.go g' w #[mk .disable]∧OnWay P Ro (Live ty Wg Ch) true (kM Wg Anch) ⟨g',w,own⟩
def SGo(i:Nat)(Next:Rank→Prop):Stops:=fun g w own=>
 ∃g' child own' ownc,stepG P true g w=.spawn g' child w #[]∧(∀b,own' b→own b)∧(∀b,ownc b→own b)∧(∀b,own' b→¬ownc b) ∧
  OnWay P Ro (Live ty Wg Ch) false (kN (SPay P ty Wg Ch Ro (pay i))) ⟨child,w,ownc⟩∧Next ⟨g',w,own'⟩
def SKeS(i:Nat)(Next:Rank→Prop):Stops:=fun g w own=>∃g',stepG P true g w=.go g' w #[mk .enable]∧OnWay P Ro (Live ty Wg Ch) true (kM Wg (SGo P ty Wg Ch Ro pay i Next)) ⟨g',w,own⟩
def SA1(i:Nat)(Next:Rank→Prop):Stops:=fun g w own=>∀v:Nat,v<2147483647→WgAt ty Wg w (v*KK) 0 →
  ∃g',stepG P true g w=.go g' (w.setCell (stA Wg) (.int .u64 ((v+1)*KK))) #[rd (stA Wg),wr (stA Wg)] ∧
   OnWay P Ro (Live ty Wg Ch) true (kM Wg (SKeS P ty Wg Ch Ro pay i Next)) ⟨g',w.setCell (stA Wg) (.int .u64 ((v+1)*KK)),own⟩
def SKdS(i:Nat)(Next:Rank→Prop):Stops:=fun g w own=>∃g',stepG P true g w=.go g' w #[mk .disable]∧OnWay P Ro (Live ty Wg Ch) true (kM Wg (SA1 P ty Wg Ch Ro pay i Next)) ⟨g',w,own⟩
def Spawns:Nat→Rank→Prop
 |0,a=>OnWay P Ro (Live ty Wg Ch) true (kM Wg (SKd P ty Wg Ch Ro Anch)) a
 |r+1,a=>OnWay P Ro (Live ty Wg Ch) true (kM Wg (SKdS P ty Wg Ch Ro pay (n-(r+1)) (Spawns r))) a
def mKind:CTag→Option Kind
 |.sp r 5=>some (kM Wg (SKdS P ty Wg Ch Ro pay (n-(r+1)) (Spawns P ty Wg Ch Ro n Anch pay r)))
 |.sp r 4=>some (kM Wg (SA1 P ty Wg Ch Ro pay (n-(r+1)) (Spawns P ty Wg Ch Ro n Anch pay r)))
 |.sp r 3=>some (kM Wg (SKeS P ty Wg Ch Ro pay (n-(r+1)) (Spawns P ty Wg Ch Ro n Anch pay r)))
 |.sp r 2=>some (kM Wg (SGo P ty Wg Ch Ro pay (n-(r+1)) (Spawns P ty Wg Ch Ro n Anch pay r)))
 |.sp _ _=>none
 |.kd=>some (kM Wg (SKd P ty Wg Ch Ro Anch))
 |.anch=>some (kM Wg Anch)
 |.w1=>some (kM Wg (SW1 P ty Wg Ch Ro Anch Done))
 |.w2 vs=>some (kM Wg (SW2 P ty Wg Ch Ro Anch Done vs))
 |.w3=>some (kM Wg (SW3 P ty Wg Ch Ro Done))
 |.w4=>some (kM Wg (SW4 P ty Wg Ch Ro Done))
 |.ke=>some (kM Wg (SKe P ty Wg Ch Ro Done))
 |.acq=>some (kM Wg (SAcq P Wg Done))
 |.blk=>none
 |.ret=>none
def mDeaf:CTag→Nat
 |.sp _ 4|.sp _ 3=>1
 |.anch|.w1|.w2 _|.w3|.blk|.w4|.ke=>1
 |_=>0
def mLeft:CTag→Nat
 |.sp r _=>r+1
 |_=>0
end
end
section
variable[Hidden]
def HandedTo(o:Nat)(t:Trace):Prop:=∀i g,t.g? i=some g→g≠0→g≤o→t.counts i→∃j,t.g? j=some 0∧HappensBefore t i j
theorem HandedTo.app{o:Nat}{t u:Trace}(h:HandedTo o t)(hu:∀op∈u,op.g=0∨o<op.g∨op.act.touch? =none):HandedTo o (t++u):=by
 intro i g hg hne hgo hc
 obtain⟨x,hx,_⟩:=id hc
 obtain⟨op,hop,hox⟩:=touch_of hx
 rcases getElem?_append_cases hop with⟨hi,hop'⟩|⟨_,hopu⟩
 .rw[g?_old hi] at hg
  obtain⟨j,hj,hb⟩:=h i g hg hne hgo ((counts_old hi).1 hc)
  have hjl:j<t.size:=by
   obtain⟨y,hy,_⟩:=Option.map_eq_some_iff.1 hj
   exact lt_size_of_getElem? hy
  exact⟨j,by rw[g?_old hjl];exact hj,hb_app u hb⟩
 .have hgo':op.g=g:=by simp[Trace.g?,hop] at hg;exact hg
  rcases hu op hopu with h1|h1|h1
  .exact absurd (hgo'.symm.trans h1) hne
  .omega
  .rw[h1] at hox;cases hox
def AcqFrom(o Wg j:Nat)(t:Trace):Prop:=
 ∃q,t.act? q=some (.mark (.acquire (stA Wg)))∧t.g? q=some 0∧t.heard q∧∀i,o≤i→i<j→∃r,RelBy (stA Wg) t (i+1) r∧r<q
theorem more_same(own:Nat→Prop)(w:World):more own w w=own:=by
 funext b
 simp only[more,eq_iff_iff]
 constructor
 .rintro(h|⟨h1,h2⟩)
  .exact h
  .omega
 .exact .inl
structure St where
 j:Nat
 D:Nat→WD
 paid:Nat→Bool
 tag:CTag
 f:Nat→Rank
 sent:List Nat
 val:Nat→Value
section
variable(P:Program)(ty:TypeId)(Wg Ch:Nat)(Ro:Nat→Prop)(Shr:Nat→Prop)(o:Nat)(n cap:Nat)(Anch Done:Stops)(pay:Nat→Option Pay)(sz rz:Nat)(tm:Bool)
def St.own(x:St):Nat→Nat→Prop:=fun i=>(x.f i).own
def WSit(x:St)(i:Nat)(g:Goroutine):Prop:=
 match wKind P ty Wg Ch Ro (pay i) (x.paid i) (x.D i).stage with
 |some k=>g=(x.f (i+1)).g∧OnWay P Ro (Live ty Wg Ch) false k (x.f (i+1))
 |none=>(x.D i).stage=1∧QuitsD P (x.D i).fuel (x.D i).deaf g
def MSit(x:St)(a:Goroutine):Prop:=
 match mKind P ty Wg Ch Ro n Anch Done pay x.tag with
 |some k=>a=(x.f 0).g∧OnWay P Ro (Live ty Wg Ch) true k (x.f 0)
 |none=>x.tag=.blk∧a={ (x.f 0).g with status:=.blocked}∧OnWay P Ro (Live ty Wg Ch) true (kM Wg (SW3 P ty Wg Ch Ro Done)) (x.f 0)∧AtStop Ro (Live ty Wg Ch) (kM Wg (SW3 P ty Wg Ch Ro Done)) (x.f 0)
structure Inv(x:St)(gs:Array Goroutine)(w:World)(t:Trace)(st sm:Int):Prop where
 size:gs.size=x.j+1
 started:x.j+mLeft x.tag=n
 le:x.j+pend x.tag≤n
 oj:o≤x.j
 shr:Shr Wg∧Shr Ch
 hid:∀b,Hidden.ch b→Shr b
 elder:∀i,i<o→(x.D i).stage=1
 eld:HandedTo o t
 pno:∀i,i<o→pay i=none
 base:Base Ro Shr o x.j x.own w t
 rely:∀i,Rely Ro (x.own i) (x.f i).w w
 wk:∀i,i<x.j→∃g,gs[i+1]?=some g∧WSit P ty Wg Ch Ro pay x i g
 main:∃a,gs[0]?=some a∧MSit P ty Wg Ch Ro n Anch Done pay x a
 norel:NoRelease (stA Wg) t
 deaf0:Deaf t 0=mDeaf x.tag
 deafW:∀i,i<x.j→Deaf t (i+1)=(x.D i).deaf
 deafS:∀i,i<x.j→(x.D i).stage≠1→(x.D i).deaf=if (x.D i).stage≤5 then 1 else 0
 rel:∀i,o≤i→i<x.j→(x.D i).stage≤6→∃r,RelBy (stA Wg) t (i+1) r
 wg:WgAt ty Wg w st sm
 mode:ConcN.Mode x.j x.D x.tag st sm
 chan:w.heap[Ch]?=some (.chan cap ((x.sent.map x.val).toArray) false x.sent.length rz tm)
 nodup:x.sent.Nodup
 sentOf:∀i,i∈x.sent↔i<x.j∧x.paid i=true∧(pay i).isSome=true
 paidOf:∀i,i<x.j→(x.D i).stage≤6→(pay i).isSome=true→x.paid i=true
 stages:∀i,i<x.j→1≤(x.D i).stage∧(x.D i).stage≤7
 pst:∀i p,pay i=some p→∀v w w1 own,p v w own→Rely Ro own w w1→p v w1 own
 pays:∀i,i∈x.sent→∀p,pay i=some p→p (x.val i) w (x.own (i+1))
structure Over(x:St)(gs:Array Goroutine)(w:World)(t:Trace):Prop where
 size:gs.size=n+1
 base:Base Ro Shr o n x.own w t
 main:∃a,gs[0]?=some a∧a=(x.f 0).g∧a.status=.running∧Done a w (x.own 0)
 quits:∀i,i<n→∃g,gs[i+1]?=some g∧QuitsD P (x.D i).fuel (Deaf t (i+1)) g
 deaf0:Deaf t 0=0
 acq:AcqFrom o Wg n t
 eld:HandedTo o t
 norel:NoRelease (stA Wg) t
 wg:WgAt ty Wg w 0 0
 chan:w.heap[Ch]?=some (.chan cap ((x.sent.map x.val).toArray) false x.sent.length rz tm)
 nodup:x.sent.Nodup
 sentOf:∀i,i∈x.sent↔i<n∧(pay i).isSome=true
 pays:∀i,i∈x.sent→∀p,pay i=some p→p (x.val i) w (x.own (i+1))
end
end
open Go.ConcR (ofEvent_cell again_blocked)
section
variable[Hidden]
def BkS(Wg:Nat)(e:Event):Prop:=((MemAct.ofEvent e).touch? =none∧∀B,Wg<B→(MemAct.ofEvent e).low B) ∨ ∃a wr,e=⟨.cell a,wr,true⟩∧a.block=Wg
theorem bkS_of_Bk{Wg:Nat}{e:Event}(h:Bk Wg e):BkS Wg e:=by
 rcases h with h|h|h
 .exact .inl (by rw[ofEvent_loc_mark h];exact⟨rfl,fun _ _=>trivial⟩)
 .exact .inl (by rw[ofEvent_loc_mark h];exact⟨rfl,fun _ _=>trivial⟩)
 .exact .inr h
section
variable{Ro Shr:Nat→Prop}{Wg o j:Nat}{own:Nat→Nat→Prop}{w w':World}{t:Trace}
theorem Base.shared(h:Base Ro Shr o j own w t){i:Nat}(hi:i≤j)(hs:w'.heap.size=w.heap.size)(hb:∀b,¬Shr b→w'.heap[b]?=w.heap[b]?)(hcl:StayCells w w')(hch:StayW w w'){u:Trace}(hu:∀op∈u,op.g=i∧(∀x,op.act.touch? =some x→ShL Shr x.loc∧x.kind=.atomic)∧op.act.low w.heap.size):Base Ro Shr o j own w' (t++u)∧∀i',Rely Ro (own i') w w':=by
 refine⟨⟨h.ap,by rw[hs];exact h.roLow,by rw[hs];exact h.shrLow,by rw[hs];exact h.ownLow,?_,fun op hop=>?_,h.told.app fun jx op x hj hx=>.inr (.inr ((hu op (Array.mem_of_getElem? hj)).2.1 x hx))⟩,fun i'=>⟨by rw[hs];exact Nat.le_refl _,fun b _ ho=>hb b fun hsh=>?_,hcl,hch⟩⟩
 .have hA:=h.ap.fam (o:=o)
  rcases Nat.eq_zero_or_pos i with rfl|hpos
  .exact h.ct.app0 hA fun op hop=>⟨(hu op hop).1,fun x hx=>.inl ⟨((hu op hop).2.1 x hx).1,by rw[((hu op hop).2.1 x hx).2];simp⟩⟩
  .exact h.ct.appW hA hpos hi fun op hop=>⟨(hu op hop).1,fun x hx=>.inl ⟨((hu op hop).2.1 x hx).1,by rw[((hu op hop).2.1 x hx).2];exact⟨by simp,by simp⟩⟩⟩
 .rw[hs]
  rcases Array.mem_append.1 hop with h1|h1
  .exact h.low op h1
  .exact(hu op h1).2.2
 .rcases ho with ho|ho
  .exact h.ap.roShr b ho hsh
  .exact(h.ap.free i' b ho).2 hsh
theorem bkS_ops{B i:Nat}{fn:FuncId}{pos:String}{es:Array Event}(hWS:Shr Wg)(hW:Wg<B)(h:∀e∈es,BkS Wg e):∀op∈MemOp.ofEvents i fn pos es,op.g=i∧(∀x,op.act.touch? =some x→ShL Shr x.loc∧x.kind=.atomic)∧op.act.low B:=by
 intro op hop
 obtain⟨e,he,rfl⟩:=Conc.mem_ofEvents hop
 refine⟨rfl,?_⟩
 rcases h e he with⟨h1,h2⟩|⟨a,wr,rfl,ha⟩
 .exact⟨fun x hx=>(by simp only[h1] at hx;cases hx),h2 B hW⟩
 .dsimp only
  rw[ofEvent_cell]
  refine⟨fun x hx=>?_,by show a.block<B;omega⟩
  simp only[MemAct.touch?,Option.some.injEq] at hx
  subst hx
  exact⟨⟨a.block,rfl,ha▸hWS⟩,by simp⟩
theorem stay_wg{ty:TypeId}{st sm st' sm':Int}(hA:Aside Wg w w')(h:WgAt ty Wg w st sm)(h':WgAt ty Wg w' st' sm'):StayCells w w':=fun b c e fr hb=>by
 by_cases e1:b=Wg
 .subst e1
  rw[show w.heap[b]?=_ from h] at hb
  simp only[wgBlock,Option.some.injEq,Obj.cells.injEq] at hb
  obtain⟨_,rfl,_⟩:=hb
  exact⟨_,_,h'⟩
 .exact⟨c,fr,by rw[hA.block b e1];exact hb⟩
theorem stay_chan{Ch:Nat}{cap s r cap' s' r':Nat}{buf buf':Array Value}{cl tm cl' tm':Bool}(hc:w.heap[Ch]?=some (.chan cap buf cl s r tm)):StayCells w (w.setChan Ch cap' buf' cl' s' r' tm'):=fun b c e fr hb=>by
 refine⟨c,fr,?_⟩
 simp only[World.setChan]
 rw[Array.getElem?_setIfInBounds_ne (fun e1=>by subst e1;rw[hc] at hb;cases hb)]
 exact hb
theorem stayc_wg{ty:TypeId}{st sm:Int}(hA:Aside Wg w w')(h:WgAt ty Wg w st sm):StayW w w':=by
 refine⟨fun b o hb hc=>?_,hA.os,hA.output⟩
 refine⟨o,?_,hc⟩
 rw[hA.block b fun e1=>?_]
 .exact hb
 .subst e1
  rw[show w.heap[b]?=_ from h] at hb
  obtain rfl:=Option.some.inj hb
  cases hc
theorem stayc_chan{Ch:Nat}{cap s r cap' s' r':Nat}{buf buf':Array Value}{cl tm cl' tm':Bool}(hc:w.heap[Ch]?=some (.chan cap buf cl s r tm)):StayW w (w.setChan Ch cap' buf' cl' s' r' tm'):=by
 refine⟨fun b o hb ho=>?_,rfl,rfl⟩
 by_cases e1:b=Ch
 .subst e1
  have hlt:=(Array.getElem?_eq_some_iff.1 hc).1
  refine⟨.chan cap' buf' cl' s' r' tm',?_,rfl⟩
  simp[World.setChan,hlt]
 .refine⟨o,?_,ho⟩
  simp only[World.setChan]
  rw[Array.getElem?_setIfInBounds_ne (fun e=>e1 e.symm)]
  exact hb
theorem Base.book(h:Base Ro Shr o j own w t)(hWS:Shr Wg){i:Nat}(hi:i≤j)(hA:Aside Wg w w')(hcl:StayCells w w')(hch:StayW w w'){es:Array Event}(hes:∀e∈es,BkS Wg e)(fn:FuncId)(pos:String):Base Ro Shr o j own w' (t++MemOp.ofEvents i fn pos es)∧∀i',Rely Ro (own i') w w':=
 h.shared hi hA.size (fun b hb=>hA.block b fun e=>hb (e▸hWS)) hcl hch (bkS_ops hWS (h.shrLow Wg hWS) hes)
end
section
variable{P:Program}{ty:TypeId}{Wg Ch:Nat}{Ro Shr:Nat→Prop}{o n cap:Nat}{Anch Done:Stops}{pay:Nat→Option Pay}{rz:Nat}{tm:Bool}
theorem WSit.status{x:St}{i:Nat}{g:Goroutine}(h:WSit P ty Wg Ch Ro pay x i g):g.status=.running∨g.status=.finished:=by
 unfold WSit at h
 split at h
 .obtain⟨rfl,h⟩:=h
  exact .inl h.status
 .exact h.2.status
theorem WSit.woken{x:St}{i:Nat}{g:Goroutine}(h:WSit P ty Wg Ch Ro pay x i g)(a a':Goroutine)(w':World):woken P a a' w' g=g:=by
 unfold Go.Conc.woken
 split
 .exact again_running _ h.status
 .rfl
theorem WSit.congr{x x':St}{i:Nat}{g:Goroutine}(h:WSit P ty Wg Ch Ro pay x i g)(h1:x'.D i=x.D i)(h2:x'.paid i=x.paid i)(h3:x'.f (i+1)=x.f (i+1)):WSit P ty Wg Ch Ro pay x' i g:=by
 unfold WSit at h⊢
 rw[h1,h2,h3]
 exact h
theorem Inv.live{x:St}{gs:Array Goroutine}{w:World}{t:Trace}{st sm:Int}(h:Inv P ty Wg Ch Ro Shr o n cap Anch Done pay rz tm x gs w t st sm):Live ty Wg Ch w:=
 ⟨⟨st,sm,h.wg⟩,_,_,_,_,_,h.chan⟩
theorem MSit.congr{x x':St}{a:Goroutine}(h:MSit P ty Wg Ch Ro n Anch Done pay x a)(h1:x'.tag=x.tag)(h2:x'.f 0=x.f 0):MSit P ty Wg Ch Ro n Anch Done pay x' a:=by
 unfold MSit at h⊢
 rw[h1,h2]
 exact h
theorem MSit.run{x:St}{a:Goroutine}(h:MSit P ty Wg Ch Ro n Anch Done pay x a)(hr:a.status=.running):∃k,mKind P ty Wg Ch Ro n Anch Done pay x.tag=some k∧a=(x.f 0).g∧OnWay P Ro (Live ty Wg Ch) true k (x.f 0):=by
 unfold MSit at h
 split at h
 .exact⟨_,‹_›,h⟩
 .rw[h.2.1] at hr;cases hr
theorem MSit.wokenBy{x:St}{a:Goroutine}{w':World}(h:MSit P ty Wg Ch Ro n Anch Done pay x a)(hr:Rely Ro (x.f 0).own (x.f 0).w w')(hl:Live ty Wg Ch w')(g g':Goroutine):∃tag',(tag'=x.tag∨(x.tag=.blk∧tag'=.w3))∧MSit P ty Wg Ch Ro n Anch Done pay {x with tag:=tag'} (woken P g g' w' a)∧(mayWake P g=true→g'.status=.running→tag'≠.blk):=by
 unfold Go.Conc.woken
 split
 .rename_i hc
  unfold MSit at h
  split at h
  .rename_i k hk
   obtain⟨rfl,hw⟩:=h
   refine⟨x.tag,.inl rfl,?_,fun _ _ e=>by rw[e] at hk;cases hk⟩
   rw[again_running _ (.inl hw.status)]
   unfold MSit
   dsimp only
   rw[hk]
   exact⟨rfl,hw⟩
  .obtain⟨e1,rfl,hw,hs⟩:=h
   have h3:=hs w' hr hl
   refine⟨.w3,.inr ⟨e1,rfl⟩,?_,fun _ _ e=>by cases e⟩
   rw[again_blocked h3.1 h3.2.1]
   unfold MSit
   exact⟨rfl,hw⟩
 .rename_i hc
  exact⟨x.tag,.inl rfl,h,fun h1 h2=>absurd (by simp[h1,h2]) hc⟩
def St.put(x:St)(i:Nat)(d:WD)(r:Rank)(tag:CTag):St:={x with D:=upd x.D i d,f:=upd x.f (i+1) r,tag}
theorem Inv.worker{x:St}{gs:Array Goroutine}{w:World}{t:Trace}{st sm:Int}(h:Inv P ty Wg Ch Ro Shr o n cap Anch Done pay rz tm x gs w t st sm){sl:Option (Nat×Nat)}{i:Nat}(hi:i<x.j){g g':Goroutine}{w':World}{es:Array Event}(hg:gs[i+1]?=some g)(hgo:stepG P false g w=.go g' w' es)(d':WD)(r':Rank){st' sm':Int}(hbase:Base Ro Shr o x.j (upd x.own (i+1) r'.own) w' (t++MemOp.ofEvents (i+1) g.frame.fn g.frame.place es))(hrel:∀i',i'≠i+1→Rely Ro (x.own i') w w')(hrelI:Rely Ro r'.own r'.w w')(hs:∀tag',WSit P ty Wg Ch Ro pay (x.put i d' r' tag') i g')(hnr:∀e∈es,e.loc≠.mark (.release (stA Wg)))(hdeaf:deafBehind (x.D i).deaf es=d'.deaf)(hd5:d'.stage≠1→d'.deaf=if d'.stage≤5 then 1 else 0)(hel:i<o→d'.stage=1)(heo:o≤i ∨ ∀e∈es,(MemAct.ofEvent e).touch? =none)(hrl:o≤i→d'.stage≤6→∃r,RelBy (stA Wg) (t++MemOp.ofEvents (i+1) g.frame.fn g.frame.place es) (i+1) r)(hwg:WgAt ty Wg w' st' sm')(hmode:∀tag',(tag'=x.tag∨(x.tag=.blk∧tag'=.w3))→(mayWake P g=true→g'.status=.running→tag'≠.blk)→ConcN.Mode x.j (upd x.D i d') tag' st' sm')(hch:w'.heap[Ch]?=w.heap[Ch]?)(hpaid:d'.stage≤6→(pay i).isSome=true→x.paid i=true)(hst:1≤d'.stage∧d'.stage≤7)(hpy:i∈x.sent→∀p,pay i=some p→p (x.val i) w (x.own (i+1))→p (x.val i) w' r'.own):∃gs' tag',runT P (crowd gs w sl) (i+1)=(.next (crowd gs' w' sl),MemOp.ofEvents (i+1) g.frame.fn g.frame.place es)∧(tag'=x.tag∨(x.tag=.blk∧tag'=.w3))∧Inv P ty Wg Ch Ro Shr o n cap Anch Done pay rz tm (x.put i d' r' tag') gs' w' (t++MemOp.ofEvents (i+1) g.frame.fn g.frame.place es) st' sm':=by
 have hl':Live ty Wg Ch w':=⟨⟨st',sm',hwg⟩,_,_,_,_,_,hch.trans h.chan⟩
 obtain⟨a,ha,hm⟩:=h.main
 have hrel0:Rely Ro (x.f 0).own (x.f 0).w w':=(h.rely 0).trans (hrel 0 (by omega))
 obtain⟨tag',ht,hm',hw⟩:=hm.wokenBy hrel0 hl' g g'
 have hown:(x.put i d' r' tag').own=upd x.own (i+1) r'.own:=by
  funext k
  show(upd x.f (i+1) r' k).own=_
  by_cases e:k=i+1
  .subst e;rw[upd_same,upd_same]
  .rw[upd_ne _ _ e,upd_ne _ _ e];rfl
 have hrun:=runT_crowd_go (P:=P) (sl:=sl) (i:=i+1) hg (by simpa using hgo)
 refine⟨_,tag',hrun,ht,⟨by simp[h.size,St.put],?_,?_,h.oj,h.shr,h.hid,fun k hk=>?_,h.eld.app fun op hop=>?_,h.pno,by rw[hown];exact hbase,fun k=>?_,fun k hk=>?_,⟨_,by rw[get_map_set _ _ _ _ (by omega),ha];rfl,hm'.congr rfl (show upd x.f (i+1) r' 0=x.f 0 from upd_ne _ _ (by omega))⟩,h.norel.app (norel_of hnr),?_,fun k hk=>?_,fun k hk h1=>?_,fun k hko hk h6=>?_,hwg,hmode tag' ht hw,?_,h.nodup,h.sentOf,fun k hk h6 hp=>?_,fun k hk=>?_,h.pst,fun k hk p hp=>?_⟩⟩
 .show x.j+mLeft tag'=n
  rcases ht with rfl|⟨e,rfl⟩
  .exact h.started
  .have:=h.started
   rw[e] at this
   exact this
 .show x.j+pend tag'≤n
  rcases ht with rfl|⟨e,rfl⟩
  .exact h.le
  .have:=h.le
   rw[e] at this
   exact this
 .show(upd x.D i d' k).stage=1
  by_cases e:k=i
  .subst e;rw[upd_same];exact hel hk
  .rw[upd_ne _ _ e];exact h.elder k hk
 .obtain⟨e,he,rfl⟩:=Conc.mem_ofEvents hop
  rcases heo with h1|h1
  .exact .inr (.inl (by show o<i+1;omega))
  .exact .inr (.inr (h1 e he))
 .show Rely Ro ((x.put i d' r' tag').own k) (upd x.f (i+1) r' k).w w'
  rw[hown]
  by_cases e:k=i+1
  .subst e;rw[upd_same,upd_same];exact hrelI
  .rw[upd_ne _ _ e,upd_ne _ _ e];exact(h.rely k).trans (hrel k e)
 .by_cases e:k=i
  .subst e
   exact⟨g',get_map_set_same _ _ _ (by rw[h.size];omega),hs tag'⟩
  .obtain⟨y,hy,hsy⟩:=h.wk k hk
   exact⟨y,by rw[get_map_set _ _ _ _ (by omega),hy,Option.map_some,hsy.woken],hsy.congr (upd_ne _ _ e) rfl (upd_ne _ _ (by omega))⟩
 .rw[Deaf_other t (by omega) _ g_of_ofEvents,h.deaf0]
  show mDeaf x.tag=mDeaf tag'
  rcases ht with rfl|⟨e,rfl⟩
  .rfl
  .rw[e];rfl
 .show _=(upd x.D i d' k).deaf
  by_cases e:k=i
  .subst e;rw[Deaf_own,h.deafW k hi,upd_same];exact hdeaf
  .rw[Deaf_other t (by omega) _ g_of_ofEvents,h.deafW k hk,upd_ne _ _ e]
 .show(upd x.D i d' k).deaf=if (upd x.D i d' k).stage≤5 then 1 else 0
  have h1:(upd x.D i d' k).stage≠1:=h1
  by_cases e:k=i
  .subst e;rw[upd_same] at h1⊢;exact hd5 h1
  .rw[upd_ne _ _ e] at h1⊢;exact h.deafS k hk h1
 .have h6:(upd x.D i d' k).stage≤6:=h6
  by_cases e:k=i
  .subst e;rw[upd_same] at h6;exact hrl hko h6
  .rw[upd_ne _ _ e] at h6
   obtain⟨r,hr⟩:=h.rel k hko hk h6
   exact⟨r,hr.appOther g_of_ofEvents (by omega)⟩
 .show w'.heap[Ch]?=_
  rw[hch]
  exact h.chan
 .have h6:(upd x.D i d' k).stage≤6:=h6
  by_cases e:k=i
  .subst e;rw[upd_same] at h6;exact hpaid h6 hp
  .rw[upd_ne _ _ e] at h6;exact h.paidOf k hk h6 hp
 .show 1≤(upd x.D i d' k).stage∧(upd x.D i d' k).stage≤7
  by_cases e:k=i
  .subst e;rw[upd_same];exact hst
  .rw[upd_ne _ _ e];exact h.stages k hk
 .rw[hown]
  by_cases e:k=i
  .subst e;rw[upd_same];exact hpy hk p hp (h.pays k hk p hp)
  .rw[upd_ne _ _ (by omega)];exact h.pst k p hp _ _ _ _ (h.pays k hk p hp) (hrel _ (by omega))
end
end
end Go.Crew
