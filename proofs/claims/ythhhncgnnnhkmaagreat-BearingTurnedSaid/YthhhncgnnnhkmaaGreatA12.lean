import Derived.Conc.Beside
import Derived.Test.YthhhncgnnnhkmaaGreatA09
set_option linter.all false
namespace Go.Crew
open Go.Conc Go.ConcN Go.Ren
def blkOf:Loc→Option Nat
 |.cell a=>some a.block
 |.obj r=>some r
 |_=>none
def ShL(Shr:Nat→Prop)(l:Loc):Prop:=∃b,blkOf l=some b∧Shr b
def OwnL(own:Nat→Nat→Prop)(k:Nat)(l:Loc):Prop:=∃b,blkOf l=some b∧own k b
def RdL(o:Nat)(Ro:Nat→Prop)(k:Nat)(l:Loc):Prop:=o<k∧∃b,blkOf l=some b∧Ro b
def Told(Shr:Nat→Prop)(t:Trace):Prop:=∀(i:Nat) (op:MemOp) (x:Touch),t[i]?=some op→op.act.touch? =some x→op.g=0∨t.counts i∨(ShL Shr x.loc∧x.kind=.atomic)
theorem Told.app{Shr:Nat→Prop}{t u:Trace}(h:Told Shr t)(hu:∀(i:Nat) (op:MemOp) (x:Touch),u[i]?=some op→op.act.touch? =some x→op.g=0∨(t++u).counts (t.size+i)∨(ShL Shr x.loc∧x.kind=.atomic)):Told Shr (t++u):=by
 intro i op x hi hx
 rcases getElem?_append_cases hi with⟨hlt,hi'⟩|⟨hge,_⟩
 .rcases h i op x hi' hx with h1|h1|h1
  .exact .inl h1
  .exact .inr (.inl ((counts_old hlt).2 h1))
  .exact .inr (.inr h1)
 .rw[Array.getElem?_append_right hge] at hi
  have:=hu (i-t.size) op x hi hx
  rwa[show t.size+(i-t.size)=i by omega] at this
def Look(b:Nat)(e:Event):Prop:=e.loc=.obj b∧e.write=false∧e.sync=true
def XOK(Shr:Nat→Prop)(i:Nat)(e:Event):Prop:=(i=0∧∃a:Addr,(e.loc=.mark (.read a)∨e.loc=.mark (.write a))∧Shr a.block) ∨ ∃b,Shr b∧Look b e
theorem XOK.still{Shr:Nat→Prop}{i:Nat}{e:Event}(h:XOK Shr i e):(∀a,e.loc≠.mark (.release a))∧e.loc≠.mark .disable∧e.loc≠.mark .enable:=by
 rcases h with⟨_,a,h3,_⟩|⟨b,_,h3,_⟩
 .rcases h3 with h3|h3<;>(rw[h3];exact⟨fun a h=>(by cases h),fun h=>(by cases h),fun h=>(by cases h)⟩)
 .rw[h3];exact⟨fun a h=>(by cases h),fun h=>(by cases h),fun h=>(by cases h)⟩
structure Apart(Ro Shr:Nat→Prop)(j:Nat)(own:Nat→Nat→Prop):Prop where
 roShr:∀b,Ro b→¬Shr b
 free:∀i b,own i b→¬Ro b∧¬Shr b
 one:∀i i' b,own i b→own i' b→i=i'
 none:∀i b,j<i→¬own i b
structure Base(Ro Shr:Nat→Prop)(o j:Nat)(own:Nat→Nat→Prop)(w:World)(t:Trace):Prop where
 ap:Crew.Apart Ro Shr j own
 roLow:∀b,Ro b→b<w.heap.size
 shrLow:∀b,Shr b→b<w.heap.size
 ownLow:∀i b,own i b→b<w.heap.size
 ct:CT (ShL Shr) (OwnL own) (RdL o Ro) t j
 low:∀op∈t,op.act.low w.heap.size
 told:Told Shr t
section
variable{Ro Shr:Nat→Prop}{o j:Nat}{own:Nat→Nat→Prop}{w w':World}{t:Trace}
theorem Apart.fam(h:Crew.Apart Ro Shr j own):ConcN.Apart (ShL Shr) (OwnL own) (RdL o Ro):=by
 refine⟨fun k k' l ⟨b,h1,h2⟩ ⟨b',h3,h4⟩=>?_,fun k k' l ⟨b,h1,h2⟩ ⟨_,b',h3,h4⟩=>?_,fun k l ⟨b,h1,h2⟩ ⟨b',h3,h4⟩=>?_,fun k l ⟨_,b,h1,h2⟩ ⟨b',h3,h4⟩=>?_⟩
 all_goals (rw[h1] at h3;obtain rfl:=Option.some.inj h3)
 .exact h.one k k' b h2 h4
 .exact(h.free k b h2).1 h4
 .exact(h.free k b h2).2 h4
 .exact h.roShr b h2 h4
theorem touch_blk{op:MemOp}{x:Touch}{e:Event}(h:op.act=.ofEvent e)(hx:op.act.touch? =some x):(∃a,e.loc=.cell a∧x.loc=.cell a∧x.write=e.write)∨(∃r,e.loc=.obj r∧x.loc=.obj r∧x.write=e.write)∨(∃m,e.loc=.mark m)∨e.loc=.output∨e.loc=.goroutines:=by
 rw[h] at hx
 obtain⟨l,wr,sy⟩:=e
 cases l with
 |cell a=>
  left
  refine⟨a,rfl,?_⟩
  simp only[MemAct.ofEvent,MemAct.touch?,Option.some.injEq] at hx
  subst hx
  exact⟨rfl,rfl⟩
 |obj r=>
  right;left
  refine⟨r,rfl,?_⟩
  cases wr<;>cases sy<;>simp[MemAct.ofEvent,MemAct.touch?] at hx<;>(subst hx;exact⟨rfl,rfl⟩)
 |mark m=>exact .inr (.inr (.inl ⟨m,rfl⟩))
 |output=>exact .inr (.inr (.inr (.inl rfl)))
 |goroutines=>exact .inr (.inr (.inr (.inr rfl)))
theorem touch_low{op:MemOp}{x:Touch}{n:Nat}(h:op.act.low n)(hx:op.act.touch? =some x){b:Nat}(hb:blkOf x.loc=some b):b<n:=by
 obtain⟨g,fn,pos,act⟩:=op
 cases act with
 |access e=>
  simp only[MemAct.touch?,Option.some.injEq] at hx
  subst hx
  obtain⟨l,wr,sy⟩:=e
  cases l<;>simp only[blkOf,Option.some.injEq] at hb<;>first|cases hb|skip
  all_goals exact h
 |mark m=>
  cases m<;>simp[MemAct.touch?] at hx
  all_goals
   subst hx
   simp only[blkOf,Option.some.injEq] at hb
   subst hb
   exact h
 |_=>simp[MemAct.touch?] at hx
theorem CT_grow{own':Nat→Nat→Prop}{n:Nat}(h:CT (ShL Shr) (OwnL own) (RdL o Ro) t j)(hl:∀op∈t,op.act.low n)(h1:∀k b,own k b→own' k b)(h2:∀k b,own' k b→own k b∨n≤b):CT (ShL Shr) (OwnL own') (RdL o Ro) t j:=by
 have hup:∀k l,OwnL own k l→OwnL own' k l:=fun k l ⟨b,e,ho⟩=>⟨b,e,h1 k b ho⟩
 refine⟨h.quiet,fun k k1 kj l ⟨b,e,ho⟩=>?_,h.rd,fun l hs hn=>h.free l hs fun k k1 kj=>⟨fun ho=>(hn k k1 kj).1 (hup k l ho),(hn k k1 kj).2⟩,fun l hs hn=>h.mine l hs fun k k1 kj ho=>hn k k1 kj (hup k l ho),h.nr,h.gs⟩
 rcases h2 k b ho with ho|hge
 .exact h.own k k1 kj l ⟨b,e,ho⟩
 .intro i a ha hal
  obtain⟨x,hx,hxa⟩:=touch_of ha
  have:=touch_low (hl x (Array.mem_of_getElem? hx)) hxa (b:=b) (by rw[hal];exact e)
  omega
theorem ofEvents_mem{g:Nat}{fn:FuncId}{pos:String}{es:Array Event}{op:MemOp}(h:op∈MemOp.ofEvents g fn pos es):∃e∈es,op.g=g∧op.act=.ofEvent e:=by
 obtain⟨e,he,rfl⟩:=Conc.mem_ofEvents h
 exact⟨e,he,rfl,rfl⟩
theorem Base.way(h:Base Ro Shr o j own w t){i:Nat}(hi:i≤j)(hio:i=0∨o<i){q:Bool}{X:Event→Prop}(hX:∀e,X e→XOK Shr i e){es:Array Event}(hd0:i=0∨Deaf t i=0∨es=#[])(hg:Guar q X Ro (own i) (more (own i) w w') w w' es)(fn:FuncId)(pos:String):Base Ro Shr o j (upd own i (more (own i) w w')) w' (t++MemOp.ofEvents i fn pos es)∧(∀i',i'≠i→Rely Ro (own i') w w')∧(∀b,Shr b→w'.heap[b]?=w.heap[b]?)∧∀k,Deaf (t++MemOp.ofEvents i fn pos es) k=Deaf t k:=by
 have hsz:=hg.size
 have hown:∀k b,upd own i (more (own i) w w') k b→own k b∨(k=i∧w.heap.size≤b∧b<w'.heap.size):=fun k b hb=>by
  by_cases e:k=i
  .subst e
   rw[upd_same] at hb
   exact hb.imp id fun h=>⟨rfl,h⟩
  .rw[upd_ne own _ e] at hb
   exact .inl hb
 have hup:∀k b,own k b→upd own i (more (own i) w w') k b:=fun k b hb=>by
  by_cases e:k=i
  .subst e;rw[upd_same];exact .inl hb
  .rw[upd_ne own _ e];exact hb
 have hap:Crew.Apart Ro Shr j (upd own i (more (own i) w w')):=by
  refine⟨h.ap.roShr,fun k b hb=>?_,fun k k' b hb hb'=>?_,fun k b hk hb=>?_⟩
  .rcases hown k b hb with h1|⟨_,h1,_⟩
   .exact h.ap.free k b h1
   .exact⟨fun h2=>by have:=h.roLow b h2;omega,fun h2=>by have:=h.shrLow b h2;omega⟩
  .rcases hown k b hb with h1|⟨e1,h1,_⟩<;>rcases hown k' b hb' with h2|⟨e2,h2,_⟩
   .exact h.ap.one k k' b h1 h2
   .have:=h.ownLow k b h1;omega
   .have:=h.ownLow k' b h2;omega
   .rw[e1,e2]
  .rcases hown k b hb with h1|⟨e1,_⟩
   .exact h.ap.none k b hk h1
   .omega
 have hct:=CT_grow (own':=upd own i (more (own i) w w')) h.ct h.low hup fun k b hb=>(hown k b hb).imp id fun h=>h.2.1
 have htouch:∀op∈MemOp.ofEvents i fn pos es,op.g=i∧∀x,op.act.touch? =some x→OwnL (upd own i (more (own i) w w')) i x.loc∨((∃b,blkOf x.loc=some b∧Ro b)∧x.write=false)∨(ShL Shr x.loc∧((i=0∧x.kind≠.plain)∨x.kind=.atomic)):=fun op hop=>by
  obtain⟨e,he,h1,h2⟩:=ofEvents_mem hop
  refine⟨h1,fun x hx=>?_⟩
  rcases hg.evs e he with hev|hev
  .unfold EvO at hev
   rcases touch_blk h2 hx with⟨a,h3,h4,h5⟩|⟨r,h3,h4,h5⟩|⟨m,h3⟩|h3|h3
   .rw[h3] at hev
    rw[h4]
    rcases hev with h6|⟨h6,h7⟩
    .exact .inl ⟨a.block,rfl,by rw[upd_same];exact h6⟩
    .exact .inr (.inl ⟨⟨a.block,rfl,h6⟩,by rw[h5,h7]⟩)
   .rw[h3] at hev
    rw[h4]
    rcases hev with h6|⟨h6,h7⟩
    .exact .inl ⟨r,rfl,by rw[upd_same];exact h6⟩
    .exact .inr (.inl ⟨⟨r,rfl,h6⟩,by rw[h5,h7]⟩)
   .rw[h3] at hev
    have hev:m=.noRoom:=hev
    subst hev
    obtain⟨l,wr,sy⟩:=e
    dsimp only at h3
    subst h3
    rw[h2] at hx
    simp[MemAct.ofEvent,MemAct.touch?] at hx
   .rw[h3] at hev;exact hev.elim
   .rw[h3] at hev;exact hev.elim
  .rcases hX e hev with⟨e0,a,h3,h4⟩|⟨b,h4,h3,h5,h6⟩
   .refine .inr (.inr ?_)
    obtain⟨l,wr,sy⟩:=e
    rw[h2] at hx
    rcases h3 with h3|h3<;>(dsimp only at h3;subst h3;simp[MemAct.ofEvent,MemAct.touch?] at hx;subst hx;exact⟨⟨a.block,rfl,h4⟩,.inl ⟨e0,by simp⟩⟩)
   .refine .inr (.inr ?_)
    obtain⟨l,wr,sy⟩:=e
    dsimp only at h3 h5 h6
    subst h3 h5 h6
    rw[h2] at hx
    simp[MemAct.ofEvent,MemAct.touch?] at hx
    subst hx
    exact⟨⟨b,rfl,h4⟩,.inr rfl⟩
 have hct':CT (ShL Shr) (OwnL (upd own i (more (own i) w w'))) (RdL o Ro) (t++MemOp.ofEvents i fn pos es) j:=by
  have hA:=hap.fam (o:=o)
  rcases Nat.eq_zero_or_pos i with e|hpos
  .refine hct.app0 hA fun op hop=>⟨by rw[(htouch op hop).1,e],fun x hx=>?_⟩
   rcases(htouch op hop).2 x hx with ho|⟨hr,hwr⟩|⟨hs,hk⟩
   .refine .inr ⟨hA.ownSh i _ ho,fun k k1 _ hk=>?_,fun _ k _ _ hk=>hA.ownRd i k _ ho hk⟩
    have:=hA.own i k _ ho hk
    omega
   .obtain⟨b,hb1,hb2⟩:=hr
    refine .inr ⟨fun⟨b',hb3,hb4⟩=>?_,fun k _ _ ⟨b',hb3,hb4⟩=>?_,fun hw=>by rw[hwr] at hw;cases hw⟩
    .rw[hb1] at hb3;obtain rfl:=Option.some.inj hb3;exact hap.roShr b hb2 hb4
    .rw[hb1] at hb3;obtain rfl:=Option.some.inj hb3;exact(hap.free k b hb4).1 hb2
   .refine .inl ⟨hs,?_⟩
    rcases hk with⟨_,hk⟩|hk
    .exact hk
    .rw[hk];simp
  .refine hct.appW hA hpos hi fun op hop=>⟨(htouch op hop).1,fun x hx=>?_⟩
   rcases(htouch op hop).2 x hx with h1|h1|⟨h1,h2⟩
   .exact .inr (.inl h1)
   .exact .inr (.inr ⟨⟨hio.resolve_left (by omega),h1.1⟩,h1.2⟩)
   .rcases h2 with⟨h2,_⟩|h2
    .omega
    .exact .inl ⟨h1,by rw[h2];simp,by rw[h2];simp⟩
 refine⟨⟨hap,fun b hb=>Nat.lt_of_lt_of_le (h.roLow b hb) hsz,fun b hb=>Nat.lt_of_lt_of_le (h.shrLow b hb) hsz,fun k b hb=>?_,hct',fun op hop=>?_,h.told.app fun jx op x hj hx=>?_⟩,fun i' hne=>⟨hsz,fun b hb ho=>hg.keep b hb fun ho'=>?_,hg.cells,hg.chans⟩,fun b hb=>hg.keep b (h.shrLow b hb) fun ho'=>(h.ap.free i b ho').2 hb,fun k=>?_⟩
 .rcases hown k b hb with h1|⟨_,_,h1⟩
  .exact Nat.lt_of_lt_of_le (h.ownLow k b h1) hsz
  .exact h1
 .rcases Array.mem_append.1 hop with h1|h1
  .exact MemAct.low_mono hsz (h.low op h1)
  .obtain⟨e,he,_,h2⟩:=ofEvents_mem h1
   rw[h2]
   have hev':=hg.evs e he
   rcases hev' with hev|hev'
   rotate_left
   .rcases hX e hev' with⟨_,a,h3,h4⟩|⟨b,h4,h3,h5,h6⟩
    .have:=Nat.lt_of_lt_of_le (h.shrLow _ h4) hsz
     obtain⟨l,wr,sy⟩:=e
     rcases h3 with h3|h3<;>(dsimp only at h3;subst h3;exact this)
    .have:=Nat.lt_of_lt_of_le (h.shrLow _ h4) hsz
     obtain⟨l,wr,sy⟩:=e
     dsimp only at h3 h5 h6
     subst h3 h5 h6
     exact this
   obtain⟨l,wr,sy⟩:=e
   unfold EvO at hev
   cases l with
   |cell a=>
    have:a.block<w'.heap.size:=by
     rcases hev with(h6|h6)|⟨h6,_⟩
     .exact Nat.lt_of_lt_of_le (h.ownLow i _ h6) hsz
     .exact h6.2
     .exact Nat.lt_of_lt_of_le (h.roLow _ h6) hsz
    exact this
   |obj r=>
    have:r<w'.heap.size:=by
     rcases hev with(h6|h6)|⟨h6,_⟩
     .exact Nat.lt_of_lt_of_le (h.ownLow i _ h6) hsz
     .exact h6.2
     .exact Nat.lt_of_lt_of_le (h.roLow _ h6) hsz
    cases wr<;>cases sy<;>exact this
   |mark m=>
    have hev:m=.noRoom:=hev
    subst hev
    trivial
   |_=>exact hev.elim
 .have hg1:=(htouch op (Array.mem_of_getElem? hj)).1
  rcases hd0 with e0|hd0|e0
  .exact .inl (hg1.trans e0)
  rotate_left
  .rw[e0,ofEvents_eq] at hj;simp at hj
  right;left
  have hm:x.loc.isMemory=true:=by
   rcases(htouch op (Array.mem_of_getElem? hj)).2 x hx with⟨b,h1,_⟩|⟨⟨b,h1,_⟩,_⟩|⟨⟨b,h1,_⟩,_⟩<;>
   .generalize x.loc=l at h1
    cases l<;>first|rfl|cases h1
  have hjs:jx≤es.size:=by
   have:=(Array.getElem?_eq_some_iff.1 hj).1
   rw[ofEvents_eq] at this
   simp at this
   omega
  have hge:(t++MemOp.ofEvents i fn pos es)[t.size+jx]?=some op:=by rw[Array.getElem?_append_right (Nat.le_add_right _ _),Nat.add_sub_cancel_left];exact hj
  refine⟨x,by rw[act?_of hge];exact hx,hm,.inr ⟨i,by simp[Trace.g?,hge,hg1],?_⟩⟩
  rw[deaf_inside t i fn pos es jx hjs,hd0]
  refine Go.Conc.deafBehind_still (fun e he=>?_) _
  have he:e∈es:=by obtain⟨k,hk,e1⟩:=Array.mem_extract_iff_getElem.1 he;rw[←e1];exact Array.getElem_mem _
  rcases hg.evs e he with hev|hev
  .unfold EvO at hev
   constructor
   .intro h1;rw[h1] at hev;cases hev
   .intro h1;rw[h1] at hev;cases hev
  .exact(hX e hev).still.2
 .rcases ho with ho|ho
  .exact(h.ap.free i b ho').1 ho
  .exact hne (h.ap.one i' i b ho ho')
 .by_cases e:k=i
  .subst e
   rw[Deaf_own]
   refine Go.Conc.deafBehind_still (fun e he=>?_) _
   rcases hg.evs e he with hev|hev
   .unfold EvO at hev
    constructor
    .intro h1;rw[h1] at hev;cases hev
    .intro h1;rw[h1] at hev;cases hev
   .exact(hX e hev).still.2
  .exact Deaf_other t (fun h=>e h.symm) _ (fun op hop=>by obtain⟨e,_,h1,_⟩:=ofEvents_mem hop;exact h1)
end
section
def One{α:Type}(r:Nat→α→α→Prop)(j:Nat)(f' f:Nat→α):Prop:=∃i,i<j∧r i (f' i) (f i)∧∀i',i'≠i→f' i'=f i'
theorem acc_tuple{α:Type}(r:Nat→α→α→Prop):∀(j:Nat) (f:Nat→α),(∀i,i<j→Acc (r i) (f i))→Acc (One r j) f
 |0,f,_=>⟨f,fun f' ⟨i,hi,_⟩=>absurd hi (Nat.not_lt_zero i)⟩
 |j+1,f,h=>by
  have outer:∀a,Acc (r j) a→∀f:Nat→α,f j=a→(∀i,i<j→Acc (r i) (f i))→Acc (One r (j+1)) f:=by
   intro a ha
   induction ha with
   |intro a _ ih=>
    intro f hfa hf
    have inner:∀f,Acc (One r j) f→f j=a→(∀i,i<j→Acc (r i) (f i))→Acc (One r (j+1)) f:=by
     intro f hacc
     induction hacc with
     |intro f _ ih2=>
      intro hfa hf
      refine⟨f,fun f' ⟨i,hi,hr,hne⟩=>?_⟩
      have hf':∀i',i'<j→Acc (r i') (f' i'):=fun i' hi'=>by
       by_cases e:i'=i
       .subst e;exact(hf i' hi').inv hr
       .rw[hne i' e];exact hf i' hi'
      by_cases e:i=j
      .subst e
       exact ih (f' i) (hfa▸hr) f' rfl hf'
      .exact ih2 f' ⟨i,by omega,hr,hne⟩ (by rw[hne j (fun h=>e h.symm)];exact hfa) hf'
    exact inner f (acc_tuple r j f hf) hfa hf
  exact outer (f j) (h j (Nat.lt_succ_self j)) f rfl fun i hi=>h i (Nat.lt_succ_of_lt hi)
structure Rank where
 g:Goroutine
 w:World
 own:Nat→Prop
structure Kind where
 quiet:Bool
 X:Event→Prop
 Stop:Goroutine→World→(Nat→Prop)→Prop
section
variable(P:Program)(Ro:Nat→Prop)(Live:World→Prop)
def OnWay(m:Bool)(k:Kind)(a:Rank):Prop:=Ren.Way P m Ro Live k.quiet k.X k.Stop a.g a.w a.own
def AtStop(k:Kind)(a:Rank):Prop:=∀w1,Rely Ro a.own a.w w1→Live w1→k.Stop a.g w1 a.own
def Child(m:Bool)(k:Kind)(a' a:Rank):Prop:=
 ¬AtStop Ro Live k a∧∃w1 es,Rely Ro a.own a.w w1∧Live w1∧stepG P m a.g w1=.go a'.g a'.w es∧a'.own=more a.own w1 a'.w
end
variable{P:Program}{Ro:Nat→Prop}{Live:World→Prop}
theorem acc_child{m:Bool}{k:Kind}{a:Rank}(h:OnWay P Ro Live m k a):Acc (Child P Ro Live m k) a:=by
 obtain⟨g,w,own⟩:=a
 have h0:Ren.Way P m Ro Live k.quiet k.X k.Stop g w own:=h
 clear h
 induction h0 with
 |stop hs h=>exact⟨_,fun a' ⟨hn,_⟩=>absurd h hn⟩
 |step hs G W E he h ih=>
  refine⟨_,fun a' ⟨_,w1,es,hr,hl,hst,ho⟩=>?_⟩
  obtain⟨e1,_⟩:=he w1 hr hl
  rw[show stepG P m _ w1=_ from hst] at e1
  simp only[GStep.go.injEq] at e1
  obtain⟨e1,e2,_⟩:=e1
  obtain⟨g',w',own'⟩:=a'
  dsimp only at e1 e2 ho
  subst e1 e2 ho
  exact ih w1 hr hl
theorem OnWay.step{m:Bool}{k:Kind}{a:Rank}(h:OnWay P Ro Live m k a)(hn:¬AtStop Ro Live k a){w1:World}(hr:Rely Ro a.own a.w w1)(hl:Live w1):∃g' w' es,stepG P m a.g w1=.go g' w' es∧Guar k.quiet k.X Ro a.own (more a.own w1 w') w1 w' es∧OnWay P Ro Live m k ⟨g',w',more a.own w1 w'⟩∧Child P Ro Live m k ⟨g',w',more a.own w1 w'⟩ a:=by
 obtain⟨g,w,own⟩:=a
 have h':Ren.Way P m Ro Live k.quiet k.X k.Stop g w own:=h
 cases h' with
 |stop hs hst=>exact absurd hst hn
 |step hs G W E he h=>
  obtain⟨e1,e2⟩:=he w1 hr hl
  exact⟨G w1,W w1,E w1,e1,e2,h w1 hr hl,hn,w1,E w1,hr,hl,e1,rfl⟩
theorem OnWay.status{m:Bool}{k:Kind}{a:Rank}(h:OnWay P Ro Live m k a):a.g.status=.running:=Ren.Way.status h
end
end Go.Crew
