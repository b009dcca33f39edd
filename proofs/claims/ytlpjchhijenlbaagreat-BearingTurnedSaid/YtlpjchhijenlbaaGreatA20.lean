/- Of the proof of BearingTurned: Call1 -/
import Derived.Test.YtlpjchhijenlbaaGreatA19
set_option linter.unusedSectionVars false
set_option linter.unusedVariables false
set_option linter.unusedSimpArgs false
section
section
namespace Go
namespace Ren
open Go.Conc
variable {P:Program} {S:FuncId→Prop}
theorem Tz (hz:aN P) (hS:kU P S) {m:Bool} {Ro Hid:Nat→Prop} {Live:World→Prop} {X:Event→Prop} (hX:∀ e r,Hid r→e.loc = .obj r→e.write=false→e.sync=true→X e)
  {Stop:Goroutine→World→(Nat→Prop)→Prop} {fn:FuncId} {args:Array Value} {v:World} {Post:Value→World→Prop} (hP:∀ x v t,Post x v→Post x (wt v t))
  {C:Nat→Prop} (hD:∀ x v,Post x v→∀ b,C b→∀ o,v.heap[b]? = some o→aU o=true) (hC:∀ (b:Nat) (o:Obj),v.heap[b]? = some o→aU o=true→C b)
  {f:Nat→Nat} {w:World} {own:Nat→Prop} (hp:di P S Ro own Hid f (G (Frame.enter P fn args .normal) [bottom]) v w) (hRo:∀ b,Ro b→b<w.heap.size∧¬ own b)
  (h:∀ t,Calls P fn args (wt v t) fun e w'=>∃ x,e = .returned x∧Post x w') {c:Frame} {cs:List Frame}
  (hnext:∀ x f' frx v' w' own',Post x v'→frx.leaving P v' (.returned x)→di P S Ro own' Hid f' (G frx [bottom]) v' w'→aI Ro (fun _=>False) w w'→(∀ b,Ro b→b<w'.heap.size∧¬ own' b)→(∀ i,i<v.heap.size→f' i=f i)→v.heap.size≤v'.heap.size →
   Way P m Ro Live false X Stop (G (c.finish (val f' x)) cs) w' own') :
  Way P m Ro Live false X Stop (G (Frame.enter P fn (vals f args) .normal) (c::cs)) w own:=by
 have ht:=Ee hz hS hP hp.ok h
 have e:aF f (c::cs) (G (Frame.enter P fn args .normal) [bottom])=G (Frame.enter P fn (vals f args) .normal) (c::cs):=by
  unfold aF yB
  dsimp only [Conc.G]
  rw [dS]
  rfl
 rw [←e]
 refine PK (n0:=v.heap.size) (f0:=f) (w0:=w) hz hS hX (C:=C) (fun g' v' hd=>?_) ht hp.ok (aI.refl _ _ _) hRo hp.inj hp.fix hp.mF hp.held (fun _ _=>rfl) (Nat.le_refl _) hC ?_
 ·obtain ⟨⟨fr,x,rfl,hf,hl,hpo⟩,_,_⟩:=hd
  exact hD x v' hpo
 ·rintro g' v' f1 w1 own1 ⟨⟨fr,x,rfl,hf,⟨hm,hde,hk,q,hq,hr⟩,hpost⟩,hok',hsz⟩ _ hw1 hRo1 hinj1 hfix1 hsim1 hheld1 ha1 hn1 _
  have hp1:di P S Ro own1 Hid f1 (G fr [bottom]) v' w1:=⟨hok',hinj1,hfix1,hsim1,hheld1⟩
  have hlv:fr.leaving P v' (.returned x):=⟨hm,hde,hk,q,hq,hr⟩
  have e0:=Sem.runT_fst P (results q fr.tmps) v' #[]
  rw [hr] at e0
  generalize hrun:(results q fr.tmps).runT P v' #[]=z at e0
  obtain ⟨z,es⟩:=z
  cases e0
  have hstep:∀ w2,aI Ro own1 w1 w2→∃ w3 es1,stepG P m (aF f1 (c::cs) (G fr [bottom])) w2 = .go (G (c.finish (val (aA f1 v' w2) x)) cs) w3 es1∧PD false X Ro own1 (more own1 w2 w3) w2 w3 es1∧di P S Ro (more own1 w2 w3) Hid (aA f1 v' w2) (G fr [bottom]) v' w3:=fun w2 hr2=>by
   obtain ⟨hp2,hinj,heq⟩:=hp1.rely hr2 (c::cs)
   rw [heq]
   obtain ⟨b,w3,e1,e2,hov,hev⟩:=(dF.of (sJ (P:=P) (f:=aA f1 v' w2) (K:=kd P S) q fr.tmps) hinj hp2.mF).ok #[] x v' es (fun e he=>by simp at he) hrun
    ⟨fun i h1 h2=>by omega,fun i h1=>by rw [fV h1];omega,fun i h1 h2=>by omega⟩
   have e3:b=val (aA f1 v' w2) x:=e2
   subst e3
   rw [Array.map_empty] at e1
   have hszz:=hov.size
   have hheld:∀ b o,v'.heap[b]? = some o→Held Ro (more own1 w2 w3) Hid (aA f1 v' w2 b) o:=fun b o hb=>(hp2.held b o hb).imp (And.imp_left .inl) id
   have hch:jd w2 w3:=fun b' o' hb' hc'=>by
    by_cases hx:∃ c o,v'.heap[c]? = some o∧aA f1 v' w2 c=b'∧aU o=true
    ·obtain ⟨c,o,hc,rfl,hch⟩:=hx
     exact ⟨o',by rw [(hov.chan c o o hc hc hch).2];exact hb',hc'⟩
    ·refine ⟨o',?_,hc'⟩
     rw [hov.keeps b' (Array.getElem?_eq_some_iff.1 hb').1 fun c o hc e=>?_]
     ·exact hb'
     ·obtain ⟨o1,h1,h2⟩:=hp2.mF.block c o hc
      rw [e,hb'] at h1
      obtain rfl:=Option.some.inj h1
      exact absurd ⟨c,o,hc,e,wB h2 hc'⟩ hx
   refine ⟨w3,seen P fr.fn (es.map (event (aA f1 v' w2))),?_,⟨fun h=>(by cases h),by omega,fun b hb hno=>?_,hov.right.same,fun _ h=>h,fun e he=>?_,hov.cells,⟨hch,by rw [hov.right.same],by rw [hov.right.same]⟩⟩,⟨hp2.ok,hp2.inj,hp2.fix,hov.mF,hheld⟩⟩
   ·unfold aF yB stepG
    dsimp only [stk,Conc.G]
    have hm':(frame (aA f1 v' w2) fr).mode = .returning:=by simp [frame,hm,mode]
    have hd':(frame (aA f1 v' w2) fr).defers=[]:=by simp [frame,hde]
    have hk':(frame (aA f1 v' w2) fr).kind = .normal:=hk
    have hf':(frame (aA f1 v' w2) fr).fn=fr.fn:=rfl
    have ht':(frame (aA f1 v' w2) fr).tmps=vals (aA f1 v' w2) fr.tmps:=rfl
    simp only [hm']
    unfold unwind
    simp only [hd',hm',hf',hq,ht',e1,doReturn,hk',GStep.after]
    simp
   ·by_cases hx:∃ c o,v'.heap[c]? = some o∧aA f1 v' w2 c=b∧aU o=true
    ·obtain ⟨c,o,hc,rfl,hch⟩:=hx
     exact (hov.chan c o o hc hc hch).2
    ·refine hov.keeps b hb fun d o hc e=>?_
     rcases hp2.held d o hc with h2 | h2 | ⟨_,h2⟩ | ⟨_,h2⟩
     ·rw [e] at h2;exact absurd h2.1 hno
     ·exact .inl h2
     ·rcases h2 with h2 | ⟨y,rfl⟩
      ·exact .inr h2
      ·exact absurd ⟨d,_,hc,e,rfl⟩ hx
     ·exact absurd ⟨d,o,hc,e,by cases o<;>first | rfl | (cases h2;done)⟩ hx
   ·exact Eu P fr.fn (p:=fun e=>Wj Ro (more own1 w2 w3) e∨X e) (fun e he=>by
     obtain ⟨e0,he0,rfl⟩:=Array.mem_map.1 he
     exact OW hX (hev e0 he0) hheld) e he
  classical
  refine .step rfl (fun w2=>G (c.finish (val (aA f1 v' w2) x)) cs) (fun w2=>if h:aI Ro own1 w1 w2 then Classical.choose (hstep w2 h) else w2) (fun w2=>if h:aI Ro own1 w1 w2 then Classical.choose (Classical.choose_spec (hstep w2 h)) else #[]) (fun w2 hr2 _=>?_) (fun w2 hr2 _=>?_)
  ·have hk:=Classical.choose_spec (Classical.choose_spec (hstep w2 hr2))
   simp only [dif_pos hr2]
   exact ⟨hk.1,hk.2.1⟩
  ·have hk:=Classical.choose_spec (Classical.choose_spec (hstep w2 hr2))
   simp only [dif_pos hr2]
   have hg:=hk.2.1
   refine hnext _ _ _ _ _ _ hpost hlv hk.2.2 (hw1.trans ⟨Nat.le_trans hr2.size hg.size,fun b hb ho=>?_,hr2.cells.trans hg.cells,hr2.chans.trans hg.chans⟩) (fun b hb=>?_) (fun i hi=>(bM (Nat.lt_of_lt_of_le hi hsz)).trans (ha1 i hi)) hsz
   ·rcases ho with ho | ho
    ·obtain ⟨h1,h2⟩:=hRo1 b ho
     exact (hg.keep b (Nat.lt_of_lt_of_le hb hr2.size) h2).trans (hr2.keep b hb (.inl ho))
    ·exact ho.elim
   ·obtain ⟨h1,h2⟩:=hRo1 b hb
    have h3:=hr2.size
    have h4:=hg.size
    exact ⟨by omega,fun h=>h.elim h2 fun h=>by omega⟩
end Ren
end Go
end
end
