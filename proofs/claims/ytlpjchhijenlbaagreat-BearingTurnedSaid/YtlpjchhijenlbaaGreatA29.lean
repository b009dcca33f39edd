/- Of the proof of BearingTurned: Wk7 Wk8 Wk9 Wk10 Wk11 Wk12 Wk13 Wk14 Wk15 Wk16 Wk17 Sh1 Wk18 Wk19 Wk20 Wk21 -/
import Derived.Test.YtlpjchhijenlbaaGreatA28
import Derived.Test.YtlpjchhijenlbaaGreatA23
import Derived.Test.YtlpjchhijenlbaaGreatA25
import Derived.Test.YtlpjchhijenlbaaGreatA27
import Derived.Test.YtlpjchhijenlbaaGreatA26
set_option linter.unusedSectionVars false
set_option linter.unusedVariables false
set_option linter.unusedSimpArgs false
section
section
namespace Go
namespace Crew
open Go.Conc Go.ConcN Go.Ren
open Go.ConcR (KK wgBlock WgAt stA smA rd wr DC0)
section
variable {P:Program}
theorem Lc:QuitsD P 1 0 (G (under P) []):=by
 refine .inr ⟨rfl,{ (G (under P) []) with status:=.finished },#[],by simp,fun w=>?_,⟨rfl,rfl⟩⟩
 simp [G,stepG,unwind,under,goexitEntry,GStep.after,seen,Frame.catches]
 rfl
theorem Ji {F:Frame} {fn:Func} (hm:F.mode = .returning) (hd:F.defers=[]) (hk:F.kind = .deferred) (hf:P.funcs[F.fn]? = some fn) (hr:fn.results=#[]):QuitsD P 2 0 (G F [under P]):=by
 refine .ctl (g':=G (under P) []) rfl (fun w=>?_) Lc
 have h1:=results_none hr F.tmps P w
 have h2:=events_results_none (P:=P) (w:=w) hr F.tmps
 simp [G,stepG,unwind,doReturn,hm,hd,hk,hf,h1,h2,under,goexitEntry,GStep.after,seen]
end
section
variable [au] {P:Program} {ty:TypeId} {Wg Ch:Nat} {Ro:Nat→Prop}
def kV (P:Program) (ty:TypeId) (Wg Ch:Nat) (Ro:Nat→Prop) (kt:Kind):Kind:=⟨false,kt.X,fun g w own=>¬ own Wg→¬ own Ch→Live ty Wg Ch w→aC P Ro (Live ty Wg Ch) false kt ⟨g,w,own⟩⟩
theorem Iu {w w':World} (h1:w'.heap[Wg]? = w.heap[Wg]?) (h2:w'.heap[Ch]? = w.heap[Ch]?) (h:Live ty Wg Ch w):Live ty Wg Ch w':=by
 obtain ⟨⟨st,sm,h3⟩,cap,buf,s,r,tm,h4⟩:=h
 exact ⟨⟨st,sm,by unfold WgAt at h3 ⊢;rw [h1];exact h3⟩,cap,buf,s,r,tm,by rw [h2];exact h4⟩
theorem live_low {w:World} (h:Live ty Wg Ch w):Wg<w.heap.size∧Ch<w.heap.size:=by
 obtain ⟨⟨st,sm,h3⟩,cap,buf,s,r,tm,h4⟩:=h
 exact ⟨(Array.getElem?_eq_some_iff.1 h3).1,(Array.getElem?_eq_some_iff.1 h4).1⟩
theorem UX {kt:Kind} (hq:kt.quiet=false) {g:Goroutine} {w:World} {own:Nat→Prop} (h:aC P Ro (Live ty Wg Ch) false (kV P ty Wg Ch Ro kt) ⟨g,w,own⟩) (hW:¬ own Wg) (hC:¬ own Ch) (hl:Live ty Wg Ch w) :
  aC P Ro (Live ty Wg Ch) false kt ⟨g,w,own⟩:=by
 have key:∀ {g:Goroutine} {w:World} {own:Nat→Prop},Ren.Way P false Ro (Live ty Wg Ch) false kt.X (kV P ty Wg Ch Ro kt).Stop g w own→¬ own Wg→¬ own Ch→Live ty Wg Ch w→Ren.Way P false Ro (Live ty Wg Ch) kt.quiet kt.X kt.Stop g w own:=by
  intro g w own h
  induction h with
  | @stop g w own hs h=>exact fun hW hC hl=>h w (aI.refl _ _ _) hl hW hC hl
  | @step g w own hs G W E he h ih=>
   intro hW hC hl
   rw [hq] at ih ⊢
   refine .step hs G W E he fun w1 hr hl1=>?_
   obtain ⟨h1,h2⟩:=live_low hl1
   have hg:=(he w1 hr hl1).2
   refine ih w1 hr hl1 (fun hb=>?_) (fun hb=>?_) (Iu (hg.keep Wg h1 hW) (hg.keep Ch h2 hC) hl1)
   ·rcases hb with hb | hb
    ·exact hW hb
    ·omega
   ·rcases hb with hb | hb
    ·exact hC hb
    ·omega
 exact key h hW hC hl
end
end Crew
end Go
end
end
section
section
namespace Go
namespace Crew
open Go.Conc Go.ConcN Go.Ren
open Go.Conc.Lib Go.ConcR.Gen Go.ConcN.Gen
section
variable {P:Program} {L:WgLink}
theorem Zx (H:WgLib P L) {F:Frame} (hm:F.mode = .returning) (Wg:Nat) (cs:List Frame) (w:World) :
  stepG P false (G { F with defers:=[doneD L.done Wg] } cs) w =
   .go (G ((baseD L.done).at ⟨#[.pointer (some ⟨Wg,0,none⟩)]++Array.replicate 3 undef,[]⟩ [.code (body_done L)]) ({ F with defers:=[] }::cs)) w #[]:=by
 have h1:Frame.enter P L.done #[.pointer (some ⟨Wg,0,none⟩)] .deferred=(baseD L.done).at ⟨#[.pointer (some ⟨Wg,0,none⟩)]++Array.replicate 3 undef,[]⟩ [.code (body_done L)]:=by
  rw [enter_atD (fn:=doneFn L) (c:=body_done L) _ H.f_done rfl];rfl
 have h2:(invoke (.fn (.func L.done) #[]) #[.pointer (some ⟨Wg,0,none⟩)]).runT P w #[]=(.ok (.enter L.done #[.pointer (some ⟨Wg,0,none⟩)]) w,#[]):=zL H.f_done (by simp [doneFn]) rfl _ w #[]
 rw [←h1]
 obtain ⟨fn,tmps,todo,defers,mode,kind,ro⟩:=F
 dsimp only at hm
 subst hm
 unfold Conc.G stepG unwind callDeferred doneD
 dsimp only
 rw [if_neg (by simp)]
 simp only [h2,GStep.after,seen_none]
 simp
end
section
variable [gm] [au] {P:Program} {S:FuncId→Prop} {L:WgLink} {Wg Ch:Nat} {Ro:Nat→Prop} {n0:Nat} {f0:Nat→Nat} {w0:World}
theorem KW.leave (H:WgLib P L) (hCW:Ch≠Wg) (hRW:¬ Ro Wg) {fr:Frame} {v:World} {fn:Func} (hm:fr.mode = .returning) (hk:fr.kind = .deferred) (hf:P.funcs[fr.fn]? = some fn) (hr:fn.results=#[]) :
  KW P S L.tWg Wg Ch Ro [under P] [doneD L.done Wg] (kV P L.tWg Wg Ch Ro (kN (Ns P L.tWg Wg Ch Ro))) n0 f0 w0 fr v:=by
 intro f w own hp hR hRo hag hn
 refine Ren.Way.stop hp.ok.run fun w1 hr1 hl1 hW hC hl=>?_
 show aC P Ro (Live L.tWg Wg Ch) false (kN (Ns P L.tWg Wg Ch Ro)) ⟨lL [doneD L.done Wg] (aF f [under P] (Conc.G fr [bottom])),w1,own⟩
 rw [jA]
 have hm':(frame f fr).mode = .returning:=by simp [frame,hm,mode]
 have hT:QuitsD P 2 0 (Conc.G { frame f fr with defers:=[] } [under P]):=Ji (F:={ frame f fr with defers:=[] }) hm' rfl hk hf hr
 let c:Frame:={ frame f fr with defers:=[] }
 let ptr:Value:=Value.pointer (some { block:=Wg,off:=0 })
 let A:Act:={ tmps:=#[ptr]++Array.replicate 3 undef,defers:=[] }
 refine Ren.Way.step rfl (fun _=>Conc.G ((baseD L.done).at A [.code (body_done L)]) (c::[under P])) id (fun _=>#[]) (fun w2 _ _=>⟨Zx H hm' Wg [under P] w2,⟨fun _=>⟨rfl,rfl⟩,Nat.le_refl _,fun _ _ _=>rfl,rfl,fun b hb=>hb,fun e he=>(by simp at he),.refl _,.refl _⟩⟩) fun w2 _ hl2=>?_
 have hown:more own w2 (id w2)=own:=tH own w2
 show Ren.Way P false Ro (Live L.tWg Wg Ch) _ _ _ _ (id w2) (more own w2 (id w2))
 rw [hown]
 exact Hq (c:=c) (cs:=[under P]) (w0:=w2) H hCW ⟨hRW,hW⟩ hm' hT w2 ⟨aI.refl _ _ _,hl2⟩
end
section
variable {P:Program}
theorem WW {F:Frame} {ops:Array Oper} {i:Nat} {rest:List Nat} {k:List Item} {o:Oper} {ch x:Operand} {Ch:Nat}
  (hm:F.mode = .run) (hro:F.roundOf=none) (ht:F.todo = .inRegion ops (i::rest)::k) (ho:ops[i]? = some o) (hw:Region.wanted o (yielded ops F.tmps)=true)
  (hop:o.op = .send ch x) (hc:F.eval ch = .chan (some Ch)) (m:Bool) (cs:List Frame) (w:World) :
  stepG P m (G F cs) w = .comm (G F cs) #[scase Ch (F.eval x) (.tuple #[])] true .send w #[]:=by
 obtain ⟨fn,tmps,todo,defers,mode,kind,ro⟩:=F
 dsimp only at hm hro ht hw hc ⊢
 subst hm hro ht
 unfold Conc.G stepG stepG.exec
 dsimp only
 rw [if_pos (by rw [ho];simpa using hw)]
 unfold stepG.oper Frame.oper?
 dsimp only
 rw [ho]
 dsimp only
 generalize (Frame.mk fn tmps (.inRegion ops (i::rest)::k) defers .run kind none).eval=ev at hc ⊢
 have hr:(execOp ev o).run P w = .ok (.comm #[scase Ch (ev x) (.tuple #[])] true .send) w:=by
  unfold execOp;rw [hop];dsimp only
  rw [hc];rfl
 have he0:(execOp ev o).events P w #[]=#[]:=by
  unfold execOp;rw [hop];dsimp only
  rfl
 unfold stepG.apply
 simp only [Sem.runT_eq,hr,he0,if_true]
 have hs:seen P fn #[]=#[]:=seen_none P fn
 simp [GStep.after,hs]
end
section
variable [gm] [au] {P:Program} {S:FuncId→Prop} {ty:TypeId} {Wg Ch:Nat} {Ro:Nat→Prop} {B:List Frame} {D:List Deferred} {n0:Nat} {f0:Nat→Nat} {w0:World}
theorem KW.send {fr:Frame} {v:World} {ops:Array Oper} {i:Nat} {rest:List Nat} {kk:List Item} {o:Oper} {ch x:Operand} {c0:Nat} {u:Value}
  (hm:fr.mode = .run) (hro:fr.roundOf=none) (ht:fr.todo = .inRegion ops (i::rest)::kk) (ho:ops[i]? = some o) (hw:Region.wanted o (yielded ops fr.tmps)=true)
  (hop:o.op = .send ch x) (hch:bG P (Nm S) ch) (hx:bG P (Nm S) x) (hvc:fr.eval ch = .chan (some c0)) (hc0:c0<n0) (hf0:f0 c0=Ch) (hvx:fr.eval x=u) (hu:aQ u=true)
  (next:KW P S ty Wg Ch Ro B D (kV P ty Wg Ch Ro (kN (Ns P ty Wg Ch Ro))) n0 f0 w0 (fr.finish undef) v):KW P S ty Wg Ch Ro B D (kV P ty Wg Ch Ro (kN (zi P ty Wg Ch Ro (some u)))) n0 f0 w0 fr v:=by
 intro f w own hp hR hRo hag hn
 have hc1:c0<v.heap.size:=Nat.lt_of_lt_of_le hc0 hn
 refine Ren.Way.stop hp.ok.run fun w1 hr1 hl1 hW hC hl=>?_
 show aC P Ro (Live ty Wg Ch) false (kN (zi P ty Wg Ch Ro (some u))) ⟨lL D (aF f B (Conc.G fr [bottom])),w1,own⟩
 refine Ren.Way.stop hp.ok.run fun w2 hr2 hl2=>?_
 have hr12:aI Ro own w w2:=aI.trans hr1 hr2
 obtain ⟨hp2,_,heq⟩:=hp.rely hr12 B
 show zi P ty Wg Ch Ro (some u) (lL D (aF f B (Conc.G fr [bottom]))) w2 own
 rw [heq,jA]
 have hw':Region.wanted o (yielded ops (vals (aA f v w2) fr.tmps))=true:=by rw [dM];exact hw
 have hev:∀ y,bG P (Nm S) y→({ frame (aA f v w2) fr with defers:=D }:Frame).eval y=val (aA f v w2) (fr.eval y):=fun y hy=>by
  have h1:=fG (S:=Nm S) (f:=aA f v w2) hp2.fix (fun _ _=>rfl) fr hy
  have h2:({ frame (aA f v w2) fr with defers:=D }:Frame).eval y=(frame (aA f v w2) fr).eval y:=by cases y<;>rfl
  rw [h2,h1]
 have hst:=WW (P:=P) (F:={ frame (aA f v w2) fr with defers:=D }) (ops:=ops) (i:=i) (rest:=rest) (k:=kk.map (item (aA f v w2))) (Ch:=Ch) (by simp [frame,hm,mode]) (by simp [frame,hro]) (by simp [frame,ht,item]) ho hw' hop (by
  rw [hev ch hch,hvc]
  have:aA f v w2 c0=Ch:=by rw [bM hc1,hag c0 hc0,hf0]
  simp [this]) false B w2
 rw [hev x hx,hvx,aH hu] at hst
 refine ⟨.tuple #[],hst,?_⟩
 have hfin:({ frame (aA f v w2) fr with defers:=D }:Frame).finish undef={ frame (aA f v w2) (fr.finish undef) with defers:=D }:=by
  have:=bg (f:=aA f v w2) fr undef hp.ok.uy.frame.items
  rw [fK] at this
  rw [rM,this]
 have hserved:Conc.served (lL D (Conc.G (frame (aA f v w2) fr) B)) undef=lL D (aF (aA f v w2) B (Conc.G (fr.finish undef) [bottom])):=by
  rw [jA]
  show Goroutine.mk (({ frame (aA f v w2) fr with defers:=D }:Frame).finish undef) B .running none none=_
  rw [hfin];rfl
 rw [hserved]
 have h1:=next (aA f v w2) w2 own ⟨hp.ok.put wU,hp2.inj,hp2.fix,hp2.mF,hp2.held⟩ (hR.trans ⟨hr12.size,fun b hb ho=>?_,hr12.cells,hr12.chans⟩) (fun b hb=>⟨Nat.lt_of_lt_of_le (hRo b hb).1 hr12.size,(hRo b hb).2⟩) (fun i hi=>(bM (Nat.lt_of_lt_of_le hi hn)).trans (hag i hi)) hn
 ·exact UX rfl h1 hW hC hl2
 ·rcases ho with ho | ho
  ·exact hr12.keep b hb (.inl ho)
  ·exact ho.elim
end
end Crew
end Go
end
end
section
section
namespace Go
namespace Crew
open Go.Conc Go.ConcN Go.Ren
section
variable [gm] {P:Program} {S:FuncId→Prop}
theorem Uy {fr:Frame} {cs:List Frame} {fn:FuncId} {args:Array Value} {v:World} {k:CallKind} (hk:k = .normal∨k = .deferred) (ok:Ok P S (Conc.G fr cs) v) (hgood:ai P S (Frame.enter P fn #[] .normal)) (ha:ni S v.heap.size args):Ok P S (Conc.G (Frame.enter P fn args k) [bottom]) v:=by
 refine ⟨ok.nv,⟨⟨fun i hi=>hgood.items i (by simpa [Conc.G,Frame.enter] using hi),fun d hd=>(by simp [Conc.G,Frame.enter] at hd),trivial,hk⟩,fun c hc=>?_,rfl⟩,rfl,⟨[],rfl⟩,ok.vS,fun H H' h h' hal=>?_,ok.clean⟩
 ·rw [List.mem_singleton.1 hc];exact xu
 ·obtain ⟨_,h2⟩:=ok.bound H H' h h' hal
  refine ⟨?_,h2⟩
  unfold yB
  simp only [Goroutine.mk.injEq,and_true,Conc.G,List.map_cons,List.map_nil]
  have e1:=@dS H _ P h fn args k
  have e2:=@dS H' _ P h' fn args k
  exact ⟨by rw [e1,e2,ha H H' h h' hal],by rw [@iW _ H,@iW _ H']⟩
end
section
variable [gm] [au] {P:Program} {S:FuncId→Prop} {ty:TypeId} {Wg Ch:Nat} {Ro:Nat→Prop}
theorem KW.birth {own:Nat→Prop} {f:Nat→Nat} {fr:Frame} {cs:List Frame} {v w:World} (hp:di P S Ro own au.ch f (Conc.G fr cs) v w) (hRo:∀ b,Ro b→b<w.heap.size∧¬ own b) (hW:¬ own Wg) (hCo:¬ own Ch)
  {wc:FuncId} {fn:Func} {pre caps:Array Value} {C:Nat→Prop} {kt:Kind} (hq:kt.quiet=false) (hf:P.funcs[wc]? = some fn) (hname:(fn.name == "runtime.NumGoroutine")=false) (hb:fn.body.isNone=false)
  (hgood:ai P S (Frame.enter P wc #[] .normal)) (hargs:ni S v.heap.size (pre++caps)) (hC:∀ b x,¬ C b→own (f b)→v.heap[b]? = some x→isCells x=true)
  (h:KW P S ty Wg Ch Ro [under P] [] (kV P ty Wg Ch Ro kt) v.heap.size f w (Frame.enter P wc (pre++caps) .deferred) (iR (fun b=>¬ C b∧own (f b)) v)) :
  aC P Ro (Live ty Wg Ch) false kt ⟨born P (deferred f { target:=.fn (.func wc) caps,args:=pre }),w,given own f C⟩:=by
 have hok:Ok P S (Conc.G (Frame.enter P wc (pre++caps) .deferred) [bottom]) v:=Uy (.inr rfl) hp.ok hgood hargs
 have hg:=di.Ve hp (C:=C) hC hok
 have hst:∀ w1,stepG P false (born P (deferred f { target:=.fn (.func wc) caps,args:=pre })) w1 = .go (aF f [under P] (Conc.G (Frame.enter P wc (pre++caps) .deferred) [bottom])) w1 #[]:=fun w1=>by
  rw [jA,dS,vY]
  exact Yg (pre:=vals f pre) (caps:=vals f caps) hf hname hb false w1
 refine Ren.Way.step rfl (fun _=>aF f [under P] (Conc.G (Frame.enter P wc (pre++caps) .deferred) [bottom])) id (fun _=>#[]) (fun w1 _ _=>⟨hst w1,⟨fun _=>⟨rfl,rfl⟩,Nat.le_refl _,fun _ _ _=>rfl,rfl,fun b hb=>hb,fun e he=>(by simp at he),.refl _,.refl _⟩⟩) fun w1 hr hl=>?_
 have hown:more (given own f C) w1 (id w1)=given own f C:=tH _ w1
 show Ren.Way P false Ro (Live ty Wg Ch) _ _ _ _ (id w1) (more (given own f C) w1 (id w1))
 rw [hown]
 obtain ⟨hp1,_,heq⟩:=hg.rely hr [under P]
 have h1:=h _ w1 (given own f C) hp1 ⟨hr.size,fun b hb ho=>ho.elim (fun h=>hr.keep b hb (.inl h)) fun h=>h.elim,hr.cells,hr.chans⟩ (fun b hb=>⟨Nat.lt_of_lt_of_le (hRo b hb).1 hr.size,fun h=>(hRo b hb).2 h.1⟩) (fun i hi=>bM (by rw [jy];exact hi)) (by rw [jy];exact Nat.le_refl _)
 have h2:=UX hq h1 (fun h=>hW h.1) (fun h=>hCo h.1) hl
 have e:lL [] (aF (aA f (iR (fun b=>¬ C b∧own (f b)) v) w1) [under P] (Conc.G (Frame.enter P wc (pre++caps) .deferred) [bottom]))=aF f [under P] (Conc.G (Frame.enter P wc (pre++caps) .deferred) [bottom]):=by
  rw [heq,jA]
  rfl
 rw [e] at h2
 exact h2
end
end Crew
end Go
end
end
section
section
namespace Go
namespace Crew
open Go.Conc Go.ConcN Go.Ren
section
variable [au] {P:Program} {L N:List FuncId} {ty:TypeId} {Wg Ch:Nat} {Ro:Nat→Prop} {B:List Frame} {D:List Deferred} {k:Kind} {n0:Nat} {f0:Nat→Nat} {w0:World}
theorem KW.item (hz:aN P) (hS:kU P (· ∈ L)) (hq:k.quiet=false) (hX:∀ e r,au.ch r→rQ r e→k.X e) {b:Frame} {a:Act} {x:Item} {kk kk':List Item} {v:World} (hbr:b.roundOf=none) (hx:Ev.Ou x=true) (ht:Kz (x::kk)=true)
  (h:∀ w:World,∃ es,stepG P true (Conc.G (b.atR a (x::kk)) [bottom]) w = .go (Conc.G (b.atR a kk') [bottom]) w es)
  (next:∀ t,@KW (aK P L N) _ P (· ∈ L) ty Wg Ch Ro B D k n0 f0 w0 (b.atR a kk') (wt v t)):@KW (aK P L N) _ P (· ∈ L) ty Wg Ch Ro B D k n0 f0 w0 (b.atR a (x::kk)) v:=by
 have h1:=fun t=>Classical.choose_spec (h (wt v t))
 refine @KW.step (aK P L N) _ _ _ _ _ _ _ _ _ _ _ _ _ hz hS hq hX _ _ (Ev.kS hx) (fun _=>b.atR a kk') (fun t=>wt v t) (fun t=>Classical.choose (h (wt v t))) h1 (fun _=>trivial) (fun _ hc=>Ren.aX hc rfl) (fun _=>.of rfl) (fun t f' w1 w2 es _ _ _ _ h2=>?_) next
 exact IJ (fr:=b.atR a (x::kk)) (fr1:=b.atR a kk') D rfl hbr ht f' w1 w2 es h2
theorem KW.op (hz:aN P) (hS:kU P (· ∈ L)) (hq:k.quiet=false) (hX:∀ e r,au.ch r→rQ r e→k.X e) {b:Frame} {a:Act} {kk:List Item} {ops:Array Oper} {i:Nat} {rest:List Nat} {o:Oper} {v:World} (hbr:b.roundOf=none)
  (ho:ops[i]? = some o) (hw:Region.wanted o (yielded ops a.tmps)=true) (hc:FK o.op=false) (hb:gB P L o=true) (hnd:∀ c,o.op ≠ .defer c)
  {M:(Nat→Question→Nat)→Next} {x:(Nat→Question→Nat)→Value} {V:(Nat→Question→Nat)→World} (hr:∀ t,(execOp a.eval o).run P (wt v t) = .ok (M t) (V t)) (hM:∀ t,Ev.Gives (M t) (x t)) (hcl:∀ t,Ren.Clean (· ∈ L) v→Ren.Clean (· ∈ L) (V t)) (hst:∀ t,Ev.dG v (V t))
  (next:∀ t,@KW (aK P L N) _ P (· ∈ L) ty Wg Ch Ro B D k n0 f0 w0 (b.atR (a.put o.dst (x t)) (.inRegion ops rest::kk)) (V t)):@KW (aK P L N) _ P (· ∈ L) ty Wg Ch Ro B D k n0 f0 w0 (b.atR a (.inRegion ops (i::rest)::kk)) v:=by
 have h0:=fun t=>Ev.ku (b:=b) (k:=kk) (cs:=[bottom]) (rest:=rest) ho hw hnd (hr t) (hM t)
 have h1:=fun t=>Classical.choose_spec (h0 t)
 have hev:(b.atR a (.inRegion ops (i::rest)::kk)).eval=a.eval:=Frame.eval_atR b a _
 refine @KW.step (aK P L N) _ _ _ _ _ _ _ _ _ _ _ _ _ hz hS hq hX _ _ (Ev.jb ho hc hb) (fun t=>b.atR (a.put o.dst (x t)) (.inRegion ops rest::kk)) V (fun t=>Classical.choose (h0 t)) h1 (fun _=>trivial) hcl hst (fun t f' w1 w2 es e1 e2 e3 e4 h2=>?_) next
 refine @SQ (aK P L N) P (· ∈ L) hz hS false B D (b.atR a (.inRegion ops (i::rest)::kk)) ops i rest kk o rfl hbr rfl ho (AZ hb) (fun _ _=>o9 _) (fun w c d g h3=>?_) v V (fun t=>b.atR (a.put o.dst (x t)) (.inRegion ops rest::kk)) (fun _=>trivial) (fun t=>⟨M t,x t,by rw [hev];exact hr t,hM t⟩) t f' w1 w2 es e1 e2 e3 e4 h2
 rw [h3] at hc
 cases hc
end
end Crew
end Go
end
end
section
section
namespace Go
namespace Crew
open Go.Conc Go.ConcN Go.Ren
section
variable {P:Program} {L N:List FuncId}
theorem II {fr:Frame} {cs:List Frame} {ops:Array Oper} {i:Nat} {rest:List Nat} {k:List Item} {o:Oper} {c:Call} (hm:fr.mode = .run) (ht:fr.todo = .inRegion ops (i::rest)::k) (ho:ops[i]? = some o)
  (hop:o.op = .call c) (hb:gB P L o=true) (hN:∀ (w:World) d g,resolve fr.eval c o.type=pure d→d.target.leads P w d.args=some g→g∉N) (hres:∃ d,resolve fr.eval c o.type=pure d):@Fit (aK P L N) P (G fr cs):=by
 refine ⟨Fb fun ops' i' rest' k' o' h1 h2=>?_,fun v' x h=>?_⟩
 ·have h1':fr.todo = .inRegion ops' (i'::rest')::k':=h1
  rw [ht] at h1'
  obtain ⟨h3,_⟩:=List.cons.inj h1'
  obtain ⟨rfl,h4⟩:=Item.inRegion.inj h3
  obtain ⟨rfl,_⟩:=List.cons.inj h4
  rw [ho] at h2
  obtain rfl:=Option.some.inj h2
  exact hb
 ·have h':fr.about P v'=some x:=h
  unfold Frame.about at h'
  rw [hm,ht] at h'
  dsimp only at h'
  rw [ho] at h'
  obtain ⟨d,hd⟩:=hres
  simp [hop,hd,pure,Sem.run] at h'
  exact hN v' d x hd h'
theorem Sv {b:Frame} {a:Act} {k:List Item} {cs:List Frame} {w:World} {ops:Array Oper} {i:Nat} {rest:List Nat} {o:Oper} {f:FuncId} {args:Array Value} (ho:ops[i]? = some o) (hw:Region.wanted o (yielded ops a.tmps)=true) (hd:∀ c,o.op ≠ .defer c)
  (hrun:(execOp a.eval o).run P w = .ok (.enter f args) w) :
  ∃ es,stepG P true (G (b.atR a (.inRegion ops (i::rest)::k)) cs) w = .go (G (Frame.enter P f args .normal) (b.atR a (.inRegion ops (i::rest)::k)::cs)) w es:=by
 have h1:=stepGR_op (P:=P) (b:=b) (a:=a) (k:=k) (cs:=cs) (w:=w) (rest:=rest) ho hw
 unfold Conc.G
 rw [h1,Oper.semAt_eq _ _ _ hd]
 simp only [stepG.apply,Sem.runT_eq,hrun,if_true,GStep.after]
 exact ⟨_,rfl⟩
end
section
variable [au] {P:Program} {L N:List FuncId} {ty:TypeId} {Wg Ch:Nat} {Ro:Nat→Prop} {B:List Frame} {D:List Deferred} {k:Kind} {n0:Nat} {f0:Nat→Nat} {w0:World}
theorem KW.VO (hz:aN P) (hS:kU P (· ∈ L)) (hq:k.quiet=false) (hX:∀ e r,au.ch r→rQ r e→k.X e) {b:Frame} {a:Act} {kk:List Item} {ops:Array Oper} {i:Nat} {rest:List Nat} {o:Oper} {w:World} (hbr:b.roundOf=none)
  (ho:ops[i]? = some o) (hw:Region.wanted o (yielded ops a.tmps)=true) {c:Call} (hop:o.op = .call c) (hb:gB P L o=true) {f:FuncId} {args args':List Value} (hlone:∀ w,(execOp a.eval o).run P w = .ok (.enter f ⟨args'⟩) w)
  {d:Deferred} (hres:resolve a.eval c o.type=pure d) (hlead:∀ w g,d.target.leads P w d.args=some g→g=f) (hfL:f∈L) (hfN:f∉N) {ρ:Ev.aY} {h h':Ev.H} {u:Value} (hva:Ev.eQ ρ args args') (hcl:Ev.fO L args=true) (hF:Ev.aV P f args h u h') (hr:Ev.HR ρ h w) (hu:Ev.gK ρ h.next h'.next)
  (next:∀ ρ' v' w',Ev.Stp ρ h w ρ' h' w'→Ev.HR ρ' h' w'→Ev.VR ρ' u v'→@KW (aK P L N) _ P (· ∈ L) ty Wg Ch Ro B D k n0 f0 w0 (b.atR (a.put o.dst v') (.inRegion ops rest::kk)) w'):@KW (aK P L N) _ P (· ∈ L) ty Wg Ch Ro B D k n0 f0 w0 (b.atR a (.inRegion ops (i::rest)::kk)) w:=by
 have hev:(b.atR a (.inRegion ops (i::rest)::kk)).eval=a.eval:=Frame.eval_atR b a _
 have hone:∀ d':Deferred,resolve a.eval c o.type=pure d'→d'=d:=fun d' h1=>by
  rw [hres] at h1
  have h2:=congrArg (fun s:Sem Deferred=>s.run P w) h1
  simp only [Sem.run_pure] at h2
  cases h2;rfl
 have hnd:∀ c',o.op ≠ .defer c':=fun c'=>by rw [hop];simp
 have h0:=fun t:Nat→Question→Nat=>Sv (b:=b) (k:=kk) (cs:=[bottom]) (rest:=rest) ho hw hnd (hlone (wt w t))
 refine @KW.call (aK P L N) _ P (· ∈ L) ty Wg Ch Ro B D k n0 f0 w0 hz hS hq hX (b.atR a (.inRegion ops (i::rest)::kk)) w
  (II rfl rfl ho hop hb (fun w d' g h1 h2=>?_) ⟨d,by rw [hev];exact hres⟩) ops i rest kk o rfl hbr rfl ho (AZ hb) (fun _ _=>o9 _) (fun w c' d' g h1 h2 h3=>?_) f ⟨args'⟩ (fun t=>by rw [hev];exact hlone _)
  (fun t=>Classical.choose (h0 t)) (fun t=>Classical.choose_spec (h0 t)) hfL (BU fun x hx=>Ev.eQ.clean hva hcl x (by simpa using hx)) (fun x w'=>∃ ρ',Ev.Stp ρ h w ρ' h' w'∧Ev.HR ρ' h' w'∧Ev.VR ρ' u x)
  (fun x v1 t1 ⟨ρ',s1,s2,s3⟩=>⟨ρ',⟨s1.le,s1.next,s1.born,s1.size,s1.log⟩,s2.heap rfl,s3⟩) (fun t1=>?_) (fun x w' ⟨ρ',s1,_,_⟩=>Ev.dG.Jq s1 hr hu) fun x w' ⟨ρ',s1,s2,s3⟩ _=>?_
 ·rw [hev] at h1
  rw [hone d' h1] at h2
  rw [hlead w g h2];exact hfN
 ·rw [hop] at h1
  cases h1
  rw [hev] at h2
  rw [hone d' h2] at h3
  rw [hlead w g h3];exact hfL
 ·refine (hF.calls (ρ:=ρ) (w:=wt w t1) hva (hr.heap rfl) hu).mono ?_
  rintro e w' ⟨v',ρ',rfl,s1,s2,s3⟩
  exact ⟨v',rfl,ρ',s1.heap rfl,s2,s3⟩
 ·have hfin:=Frame.finish_atR b a ops i rest kk x
  rw [ho] at hfin
  simp only [Option.bind_some] at hfin
  rw [hfin]
  exact next ρ' x w' s1 s2 s3
end
end Crew
end Go
end
end
section
section
namespace Go
namespace Crew
open Go.Conc Go.ConcN Go.Ren
section
variable [au] {P:Program} {L N:List FuncId} {ty:TypeId} {Wg Ch:Nat} {Ro:Nat→Prop} {B:List Frame} {D:List Deferred} {k:Kind} {n0:Nat} {f0:Nat→Nat} {w0:World}
theorem KW.opE (hz:aN P) (hS:kU P (· ∈ L)) (hq:k.quiet=false) (hX:∀ e r,au.ch r→rQ r e→k.X e) {ρ:Ev.aY} {n:Nat} {t:Ev.T Value} {h h':Ev.H} {o:Oper} {v:Value} {ops:Array Oper} {i:Nat} {rest:List Nat} {b:Frame} {a:Act} {kk:List Item} {w:World} (hbr:b.roundOf=none)
  (e:(if Ev.qh o.op then (Ev.jQ P (Ev.aG t) o.op).map fun v=>(v,h) else Ev.tZ P (Ev.aG t) o.op h)=some (v,h')) (hc:Ev.Pn P L t o=true) (ho:ops[i]? = some o) (hw:Region.wanted o (yielded ops a.tmps)=true) (ht:Ev.TR ρ n t a.tmps) (hr:Ev.HR ρ h w) (hu:Ev.gK ρ h.next h'.next)
  (next:∀ ρ' v' w',Ev.Stp ρ h w ρ' h' w'→Ev.HR ρ' h' w'→Ev.VR ρ' v v'→@KW (aK P L N) _ P (· ∈ L) ty Wg Ch Ro B D k n0 f0 w0 (b.atR (a.put o.dst v') (.inRegion ops rest::kk)) w'):@KW (aK P L N) _ P (· ∈ L) ty Wg Ch Ro B D k n0 f0 w0 (b.atR a (.inRegion ops (i::rest)::kk)) w:=by
 have hcc:=hc
 unfold Ev.Pn at hcc
 simp only [Bool.and_eq_true,Bool.not_eq_true'] at hcc
 obtain ⟨⟨hb,hcall⟩,_⟩:=hcc
 have hnd:∀ c,o.op ≠ .defer c:=fun c hh=>by
  split at e
  ·cases hp:Ev.jQ P (Ev.aG t) o.op with
   | none=>rw [hp] at e;cases e
   | some u=>exact Ev.gq hp c hh
  ·exact Ev.qF e c hh
 have does:∀ tp,Ev.Wl P L ρ h (wt w tp) (execOp a.eval o) v h':=fun tp=>by
  have hr':Ev.HR ρ h (wt w tp):=hr.heap (Ev.oC w tp)
  split at e
  ·cases hp:Ev.jQ P (Ev.aG t) o.op with
   | none=>rw [hp] at e;cases e
   | some u=>
    rw [hp] at e
    cases e
    obtain ⟨v',q1,q2⟩:=Ev.pure_ok (o:=o) (Ev.dh ht) hp (wt w tp)
    exact ⟨_,v',_,ρ,q1,.inl rfl,.refl ρ h _ _ rfl,hr',q2,id⟩
  ·rename_i hp
   exact Ev.Ll hc (by simpa using hp) ht hr' e hu
 have h1:=fun tp=>Classical.choose_spec (does tp)
 have h2:=fun tp=>Classical.choose_spec (h1 tp)
 have h3:=fun tp=>Classical.choose_spec (h2 tp)
 have h4:=fun tp=>Classical.choose_spec (h3 tp)
 refine KW.op hz hS hq hX hbr ho hw hcall hb hnd (M:=fun tp=>Classical.choose (does tp)) (x:=fun tp=>Classical.choose (h1 tp)) (V:=fun tp=>Classical.choose (h2 tp)) (fun tp=>(h4 tp).1) (fun tp=>(h4 tp).2.1) (fun tp hcl=>(h4 tp).2.2.2.2.2 (Ren.aX hcl (Ev.oC w tp))) (fun tp=>Ev.dG.Jq ((h4 tp).2.2.1.heap (Ev.oC w tp)) hr hu) fun tp=>?_
 exact next _ _ _ ((h4 tp).2.2.1.heap (Ev.oC w tp)) (h4 tp).2.2.2.1 (h4 tp).2.2.2.2.1
end
end Crew
end Go
end
end
section
section
namespace Go
namespace Crew
open Go.Conc Go.ConcN Go.Ren
section
variable [au] {P:Program} {ty:TypeId} {Wg Ch:Nat} {Ro:Nat→Prop}
def GG (own:Nat→Prop) (w:World):Prop:=∀ b,au.ch b→b<w.heap.size∧¬ own b
def kO (P:Program) (ty:TypeId) (Wg Ch:Nat) (Ro:Nat→Prop) (kt:Kind):Kind:=⟨false,kt.X,fun g w own=>¬ own Wg→¬ own Ch→GG own w→Live ty Wg Ch w→aC P Ro (Live ty Wg Ch) true kt ⟨g,w,own⟩⟩
theorem JC {kt:Kind} (hq:kt.quiet=false) {g:Goroutine} {w:World} {own:Nat→Prop} (h:aC P Ro (Live ty Wg Ch) true (kO P ty Wg Ch Ro kt) ⟨g,w,own⟩) (hW:¬ own Wg) (hC:¬ own Ch) (hH:GG own w) (hl:Live ty Wg Ch w) :
  aC P Ro (Live ty Wg Ch) true kt ⟨g,w,own⟩:=by
 have key:∀ {g:Goroutine} {w:World} {own:Nat→Prop},Ren.Way P true Ro (Live ty Wg Ch) false kt.X (kO P ty Wg Ch Ro kt).Stop g w own→¬ own Wg→¬ own Ch→GG own w→Live ty Wg Ch w→Ren.Way P true Ro (Live ty Wg Ch) kt.quiet kt.X kt.Stop g w own:=by
  intro g w own h
  induction h with
  | @stop g w own hs h=>exact fun hW hC hH hl=>h w (aI.refl _ _ _) hl hW hC hH hl
  | @step g w own hs G W E he h ih=>
   intro hW hC hH hl
   rw [hq] at ih ⊢
   refine .step hs G W E he fun w1 hr hl1=>?_
   obtain ⟨h1,h2⟩:=live_low hl1
   have hg:=(he w1 hr hl1).2
   refine ih w1 hr hl1 (fun hb=>?_) (fun hb=>?_) (fun b hb=>⟨Nat.lt_of_lt_of_le (hH b hb).1 (Nat.le_trans hr.size hg.size),fun ho=>?_⟩) (Iu (hg.keep Wg h1 hW) (hg.keep Ch h2 hC) hl1)
   ·rcases hb with hb | hb
    ·exact hW hb
    ·omega
   ·rcases hb with hb | hb
    ·exact hC hb
    ·omega
   ·rcases ho with ho | ho
    ·exact (hH b hb).2 ho
    ·have:=Nat.lt_of_lt_of_le (hH b hb).1 hr.size
     omega
 exact key h hW hC hH hl
end
section
variable [gm] [au] {P:Program} {S:FuncId→Prop} {ty:TypeId} {Wg Ch:Nat} {Ro:Nat→Prop} {k:Kind} {n0:Nat} {f0:Nat→Nat} {w0:World}
def KO (P:Program) (S:FuncId→Prop) (ty:TypeId) (Wg Ch:Nat) (Ro:Nat→Prop) (k:Kind) (n0:Nat) (f0:Nat→Nat) (w0:World) (fr:Frame) (cs:List Frame) (v:World):Prop:=
 ∀ (f:Nat→Nat) (w:World) (own:Nat→Prop),di P S Ro own au.ch f (Conc.G fr cs) v w→aI Ro (fun _=>False) w0 w→(∀ b,Ro b→b<w.heap.size∧¬ own b)→(∀ i,i<n0→f i=f0 i)→n0≤v.heap.size →
  aC P Ro (Live ty Wg Ch) true k ⟨aF f [] (Conc.G fr cs),w,own⟩
theorem KO.EZ (hz:aN P) (hS:kU P S) (hq:k.quiet=false) (hX:∀ e r,au.ch r→rQ r e→k.X e) {fr:Frame} {cs:List Frame} {v:World}
  (ht:iG P S (fun g v'=>∃ fr' cs',g=Conc.G fr' cs'∧KO P S ty Wg Ch Ro k n0 f0 w0 fr' cs' v'∧Ev.dG v v') (Conc.G fr cs) v):KO P S ty Wg Ch Ro k n0 f0 w0 fr cs v:=by
 intro f w own hp hR hRo hag hn
 refine Lr hz hS hq hX (D:=fun g v'=>∃ fr' cs',g=Conc.G fr' cs'∧KO P S ty Wg Ch Ro k n0 f0 w0 fr' cs' v'∧Ev.dG v v') (C:=fun b=>∃ o,v.heap[b]? = some o∧aU o=true)
  (fun g v' ⟨_,_,_,_,hst⟩ b ⟨o,h1,h2⟩ o' h3=>hst b o h1 h2 o' h3) hp hRo ht (fun b o h1 h2=>⟨o,h1,h2⟩) ?_
 rintro g' v' f' w' own' ⟨fr',cs',rfl,hk,_⟩ hp' hR' hRo' hag' hn'
 exact hk f' w' own' hp' (hR.trans hR') hRo' (fun i hi=>(hag' i (Nat.lt_of_lt_of_le hi hn)).trans (hag i hi)) (Nat.le_trans hn hn')
end
theorem JB [au] {P:Program} {L N:List FuncId} (hz:aN P) (hS:kU P (· ∈ L)) {ty:TypeId} {Wg Ch:Nat} {Ro:Nat→Prop} {k:Kind} {n0:Nat} {f0:Nat→Nat} {w0:World} (hq:k.quiet=false) (hX:∀ e r,au.ch r→rQ r e→k.X e) :
  Ev.kH P L N (@KO (aK P L N) _ P (· ∈ L) ty Wg Ch Ro k n0 f0 w0):=fun _ _ _ ht=>@KO.EZ (aK P L N) _ _ _ _ _ _ _ _ _ _ _ hz hS hq hX _ _ _ ht
end Crew
end Go
end
end
section
section
namespace Go
namespace Crew
open Go.Conc Go.ConcN Go.Ren Go.RowKit Go.Conc.Lib Go.ConcR.Gen Go.ConcN.Gen
open Go.ConcR (KK wgBlock WgAt stA smA rd wr DC0)
section
variable [gm] [au] {P:Program} {S:FuncId→Prop} {L:WgLink} {Ro:Nat→Prop} {Wg Ch:Nat} {pay:Nat→Option Value}
theorem KO.add (H:WgLib P L) (hCW:Ch≠Wg) (hRW:¬ Ro Wg) {v:World} {fr:Frame} {cs:List Frame} {ops:Array Oper} {i n:Nat} {rest:List Nat} {k:List Item} {o:Oper} {x:Operand} {b:Nat} {ats:Array TypeId} {Next:Rank→Prop} {n0:Nat} {f0:Nat→Nat} {w0:World}
  (hm:fr.mode = .run) (hro:fr.roundOf=none) (hk:fr.kind ≠ .early) (ht:fr.todo = .inRegion ops (i::rest)::k) (ho:ops[i]? = some o) (hw:Region.wanted o (yielded ops fr.tmps)=true)
  (hop:o.op = .call { callee:=.value (.func L.add),args:=#[x,.const (.int .i64 1)],argTypes:=ats }) (hx:bG P (Nm S) x) (hv:fr.eval x = .pointer (some ⟨b,0,none⟩)) (hb0:b<n0) (hfb:f0 b=Wg)
  (after:KO P S L.tWg Wg Ch Ro (kO P L.tWg Wg Ch Ro (kM Wg (V5 P L.tWg Wg Ch Ro pay n Next))) n0 f0 w0 (fr.finish (.tuple #[])) cs v) :
  KO P S L.tWg Wg Ch Ro (kO P L.tWg Wg Ch Ro (kM Wg (Nh P L.tWg Wg Ch Ro pay n Next))) n0 f0 w0 fr cs v:=by
 intro f₁ w₁₁ own hp₁ hR hRo₁ hag₁ hn0
 refine Ren.Way.stop hp₁.ok.run fun w hr0 _ hW0 hC0 hH0 hlive=>?_
 obtain ⟨hp,_,e00⟩:=hp₁.rely hr0 []
 show aC P Ro (Live L.tWg Wg Ch) true (kM Wg (Nh P L.tWg Wg Ch Ro pay n Next)) ⟨aF f₁ [] (G fr cs),w,own⟩
 rw [e00]
 generalize hfdef:aA f₁ v w=f at hp
 have hag:∀ i,i<n0→f i=f0 i:=fun i hi=>by rw [←hfdef];exact (bM (Nat.lt_of_lt_of_le hi hn0)).trans (hag₁ i hi)
 have hR0:aI Ro (fun _=>False) w0 w:=hR.trans ⟨hr0.size,fun b hb ho=>ho.elim (fun h=>hr0.keep b hb (.inl h)) fun h=>h.elim,hr0.cells,hr0.chans⟩
 have hRo:∀ b,Ro b→b<w.heap.size∧¬ own b:=fun b hb=>⟨Nat.lt_of_lt_of_le (hRo₁ b hb).1 hr0.size,(hRo₁ b hb).2⟩
 have hW:¬ Ro Wg∧¬ own Wg:=⟨hRW,hW0⟩
 have hb:f b=Wg:=(hag b hb0).trans hfb
 have e:=xx hm hro ht f
 have hw':Region.wanted o (yielded ops (vals f fr.tmps))=true:=by rw [dM];exact hw
 have hk':(frame f fr).kind ≠ .early:=hk
 have hfix:=hp.fix
 have hgS:aF f [] (G fr cs)=G ((frame f fr).at { tmps:=vals f fr.tmps,defers:=fr.defers.map (deferred f) } (.inRegion ops (i::rest)::k.map (item f))) (stk f [] cs):=by rw [←e];rfl
 have hargs:(#[x,.const (.int .i64 1)]:Array Operand).map (Act.eval { tmps:=vals f fr.tmps,defers:=fr.defers.map (deferred f) })=#[.pointer (some ⟨Wg,0,none⟩),.int .i64 1]:=by
  rw [nP]
  simp only [List.map_toArray,List.map_cons,List.map_nil]
  rw [fG (S:=Nm S) hfix (fun _ _=>rfl) fr hx,hv]
  simp [addr,hb,Frame.eval]
 rw [hgS]
 refine bQ 2 hlive (Goes.step rfl fun w₁ h₁=>?_)
 refine goes_call ho hw' hk' hop H.f_add (nm_add L) rfl ⟨by u_nil,?_⟩
 rw [hargs]
 refine Goes.stop fun w₂ h₂=>?_
 refine add_pos (b₀:=frame f fr) (a₀:={ tmps:=vals f fr.tmps,defers:=fr.defers.map (deferred f) }) (ops₀:=ops) (i₀:=i) (rest₀:=rest) (k₀:=k.map (item f)) (w0:=w) H hCW hW (fun w₃ h₃=>?_) w₂ (rg h₁ h₂)
 obtain ⟨hp3,_,e3⟩:=hp.rely h₃.rely []
 have hfin:G ((frame f fr).at (Act.put { tmps:=vals f fr.tmps,defers:=fr.defers.map (deferred f) } ((ops[i]?).bind (·.dst)) (.tuple #[])) (.inRegion ops rest::k.map (item f))) (stk f [] cs)=aF f [] (G (fr.finish (.tuple #[])) cs):=by
  have h1:(frame f fr).finish (.tuple #[])=frame f (fr.finish (.tuple #[])):=by
   have:=bg (f:=f) fr (.tuple #[]) hp.ok.uy.frame.items
   rwa [aH (v:=.tuple #[]) rfl f] at this
  have h2:aF f [] (G (fr.finish (.tuple #[])) cs)=G (frame f (fr.finish (.tuple #[]))) (stk f [] cs):=rfl
  rw [h2,← h1]
  conv=>rhs;rw [e]
  rw [Frame.finish_at]
 have hput:ni S v.heap.size #[.tuple #[]]:=fun H H' h h' _=>by
  unfold vals
  simp only [List.map_toArray,List.map_cons,List.map_nil]
  rw [uA,uA,Array.map_empty,Array.map_empty]
 have hok2:=hp.ok.put hput
 have hp2:di P S Ro own au.ch f (G (fr.finish (.tuple #[])) cs) v w:=⟨hok2,hp.inj,hp.fix,hp.mF,hp.held⟩
 obtain ⟨hp4,_,e4⟩:=hp2.rely h₃.rely []
 rw [hfin,e4]
 have hsz:=h₃.rely.size
 refine JC rfl (after _ _ _ hp4 (hR0.trans ⟨hsz,fun b hb ho=>ho.elim (fun h=>h₃.rely.keep b hb (.inl h)) fun h=>h.elim,h₃.rely.cells,h₃.rely.chans⟩) (fun b hb=>⟨Nat.lt_of_lt_of_le (hRo b hb).1 hsz,(hRo b hb).2⟩) (fun i hi=>(bM (Nat.lt_of_lt_of_le hi hn0)).trans (hag i hi)) hn0) hW0 hC0 (fun b hb=>⟨Nat.lt_of_lt_of_le (hH0 b hb).1 hsz,(hH0 b hb).2⟩) h₃.live
end
section
variable [gm] [au] {P:Program} {S:FuncId→Prop} {ty:TypeId} {Ro:Nat→Prop} {Wg Ch:Nat} {pay:Nat→Option Value}
theorem KO.go_ {v:World} {fr:Frame} {cs:List Frame} {ops:Array Oper} {i n:Nat} {rest:List Nat} {k:List Item} {o:Oper} {t:Tmp} {g:Fn} {pre caps:Array Value} {ats:Array TypeId} {Next:Rank→Prop} {n0:Nat} {f0:Nat→Nat} {w0:World}
  (hm:fr.mode = .run) (hro:fr.roundOf=none) (hk:fr.kind ≠ .early) (ht:fr.todo = .inRegion ops (i::rest)::k) (ho:ops[i]? = some o) (hw:Region.wanted o (yielded ops fr.tmps)=true)
  (hop:o.op = .go { callee:=.value (.tmp t),args:=#[],argTypes:=ats }) (hv:fr.tmps.getD t undef = .func g pre caps)
  {C:Nat→Prop} (hlt:∀ b,C b→b<v.heap.size) (hC:∀ b x,C b→v.heap[b]? = some x→isCells x=true)
  (child:∀ f w own,di P S Ro own au.ch f (Conc.G fr cs) v w→aI Ro (fun _=>False) w0 w→(∀ b,Ro b→b<w.heap.size∧¬ own b)→(∀ i,i<n0→f i=f0 i)→¬ own Wg→¬ own Ch→GG own w→Live ty Wg Ch w →
   aC P Ro (Live ty Wg Ch) false (kN (zi P ty Wg Ch Ro (pay n))) ⟨Conc.born P (deferred f { target:=.fn g caps,args:=pre }),w,given own f C⟩)
  {kt:Kind} (hq:kt.quiet=false) (hNext:∀ a,aC P Ro (Live ty Wg Ch) true kt a→Next a)
  (next:KO P S ty Wg Ch Ro (kO P ty Wg Ch Ro kt) n0 f0 w0 (fr.finish undef) cs (iR C v)) :
  KO P S ty Wg Ch Ro (kO P ty Wg Ch Ro (kM Wg (V5 P ty Wg Ch Ro pay n Next))) n0 f0 w0 fr cs v:=by
 intro f₁ w₁₁ own hp₁ hR hRo₁ hag₁ hn0
 refine Ren.Way.stop hp₁.ok.run fun w1 hr1 _ hW hCo hH1 hl1=>?_
 show aC P Ro (Live ty Wg Ch) true (kM Wg (V5 P ty Wg Ch Ro pay n Next)) ⟨aF f₁ [] (Conc.G fr cs),w1,own⟩
 refine Ren.Way.stop hp₁.ok.run fun w hr2 hlive=>?_
 have hr0:aI Ro own w₁₁ w:=aI.trans hr1 hr2
 have hH:GG own w:=fun b hb=>⟨Nat.lt_of_lt_of_le (hH1 b hb).1 hr2.size,(hH1 b hb).2⟩
 obtain ⟨hp,_,e00⟩:=hp₁.rely hr0 []
 show V5 P ty Wg Ch Ro pay n Next (aF f₁ [] (Conc.G fr cs)) w own
 rw [e00]
 have hag:∀ i,i<n0→aA f₁ v w i=f0 i:=fun i hi=>(bM (Nat.lt_of_lt_of_le hi hn0)).trans (hag₁ i hi)
 have hR0:aI Ro (fun _=>False) w0 w:=hR.trans ⟨hr0.size,fun b hb ho=>ho.elim (fun h=>hr0.keep b hb (.inl h)) fun h=>h.elim,hr0.cells,hr0.chans⟩
 have hRo:∀ b,Ro b→b<w.heap.size∧¬ own b:=fun b hb=>⟨Nat.lt_of_lt_of_le (hRo₁ b hb).1 hr0.size,(hRo₁ b hb).2⟩
 refine sgo hp hm hro hk ht ho hw hop hv hlt hC (child _ _ _ hp hR0 hRo hag hW hCo hH hlive) fun hp2=>hNext _ ?_
 exact JC hq (next _ _ _ hp2 hR0 (fun b hb=>⟨(hRo b hb).1,fun h=>(hRo b hb).2 h.1⟩) hag (by rw [jy];exact hn0)) (fun h=>hW h.1) (fun h=>hCo h.1) (fun b hb=>⟨(hH b hb).1,fun h=>(hH b hb).2 h.1⟩) hlive
end
end Crew
end Go
end
end
section
section
namespace Go
namespace Crew
open Go.Conc Go.ConcN Go.Ren Go.RowKit Go.Conc.Lib Go.ConcR.Gen Go.ConcN.Gen
open Go.ConcR (KK wgBlock WgAt stA smA rd wr DC0)
section
variable [gm] [au] {P:Program} {S:FuncId→Prop} {L:WgLink} {Ro:Nat→Prop} {Wg Ch:Nat} {pay:Nat→Option Value} {n0:Nat} {f0:Nat→Nat} {w0:World}
theorem KO.wait (H:WgLib P L) (hRW:¬ Ro Wg) {v:World} {fr:Frame} {cs:List Frame} {ops:Array Oper} {i:Nat} {rest:List Nat} {k:List Item} {o:Oper} {x:Operand} {b:Nat} {ats:Array TypeId} {End:Goroutine→World→Prop}
  (hm:fr.mode = .run) (hro:fr.roundOf=none) (hk:fr.kind ≠ .early) (ht:fr.todo = .inRegion ops (i::rest)::k) (ho:ops[i]? = some o) (hw:Region.wanted o (yielded ops fr.tmps)=true)
  (hop:o.op = .call { callee:=.value (.func L.wait),args:=#[x],argTypes:=ats }) (hx:bG P (Nm S) x) (hv:fr.eval x = .pointer (some ⟨b,0,none⟩)) (hb0:b<n0) (hfb:f0 b=Wg)
  (hE:End (G (fr.finish (.tuple #[])) cs) v) :
  KO P S L.tWg Wg Ch Ro (kO P L.tWg Wg Ch Ro (kM Wg (QA P L.tWg Wg Ch Ro (Head P S L Ro au.ch Wg Ch w0 n0 f0 End)))) n0 f0 w0 fr cs v:=by
 intro f₁ w₁₁ own hp₁ hR hRo₁ hag₁ hn0
 refine Ren.Way.stop hp₁.ok.run fun w hr0 _ hW hCo _ hlive=>?_
 obtain ⟨hp,_,e00⟩:=hp₁.rely hr0 []
 show aC P Ro (Live L.tWg Wg Ch) true (kM Wg (QA P L.tWg Wg Ch Ro (Head P S L Ro au.ch Wg Ch w0 n0 f0 End))) ⟨aF f₁ [] (G fr cs),w,own⟩
 rw [e00]
 have hag:∀ i,i<n0→aA f₁ v w i=f0 i:=fun i hi=>(bM (Nat.lt_of_lt_of_le hi hn0)).trans (hag₁ i hi)
 have hR0:aI Ro (fun _=>False) w0 w:=hR.trans ⟨hr0.size,fun b hb ho=>ho.elim (fun h=>hr0.keep b hb (.inl h)) fun h=>h.elim,hr0.cells,hr0.chans⟩
 exact Nz H hp ⟨hRW,hW⟩ hlive hm hro hk ht ho hw hop hx hv ((hag b hb0).trans hfb) hE hR0 hag hn0
def yI (P:Program) (ty:TypeId) (Wg Ch:Nat) (Ro:Nat→Prop) (n:Nat) (Anch:Stops) (pay:Nat→Option Value):Nat→Kind
 | 0=>kM Wg (QA P ty Wg Ch Ro Anch)
 | r+1=>kM Wg (Nh P ty Wg Ch Ro pay (n - (r+1)) (Spawns P ty Wg Ch Ro n Anch pay r))
theorem KO.spawns {v w:World} {fr:Frame} {cs:List Frame} {n r:Nat} {Anch:Stops} {f:Nat→Nat} {own:Nat→Prop}
  (h:KO P S L.tWg Wg Ch Ro (kO P L.tWg Wg Ch Ro (yI P L.tWg Wg Ch Ro n Anch pay r)) v.heap.size f w fr cs v)
  (hp:di P S Ro own au.ch f (G fr cs) v w) (hRo:∀ b,Ro b→b<w.heap.size∧¬ own b) (hW:¬ own Wg) (hC:¬ own Ch) (hH:GG own w) (hl:Live L.tWg Wg Ch w):Spawns P L.tWg Wg Ch Ro n Anch pay r ⟨aF f [] (G fr cs),w,own⟩:=by
 have h1:=h f w own hp (aI.refl _ _ _) hRo (fun _ _=>rfl) (Nat.le_refl _)
 cases r with
 | zero=>exact JC rfl h1 hW hC hH hl
 | succ r=>exact JC rfl h1 hW hC hH hl
end
end Crew
end Go
end
end
section
section
namespace Go
namespace Crew
open Go.Conc Go.ConcN Go.Ren Go.Conc.Lib Go.ConcR.Gen Go.ConcN.Gen
open Go.ConcR (KK wgBlock WgAt stA smA rd wr DC0)
section
variable [gm] [au] {P:Program} {S:FuncId→Prop} {L:WgLink} {Z Shr:Nat→Prop} {o:Nat}
def yT (Z Shr A:Nat→Prop) (f:Nat→Nat) (v w:World):Nat→Prop:=fun b=>Z b ∨ ∃ a,A a∧a<v.heap.size∧f a=b∧mine Z Shr w b
def keeps (Z Shr A:Nat→Prop) (f:Nat→Nat) (v w:World):Nat→Prop:=fun b=>mine Z Shr w b∧¬ yT Z Shr A f v w b
theorem SX (H:WgLib P L) {Post:Value→World→Prop} {A:Nat→Prop} {f:Nat→Nat} {fr:Frame} {cs:List Frame} {v w:World} {gs:Array Goroutine} {sl:Option (Nat × Nat)} {t:Trace} {q:Nat→Nat} {Wg Ch n cap rz:Nat} {tm:Bool} {pay:Nat→Option Value} {End:Goroutine→World→Prop}
  (hM:Mirror P S Z Shr au.ch o f (Conc.G fr cs) v gs w t q) (hAo:∀ b x,A b→v.heap[b]? = some x→(∀ a l,x ≠ .number a l)∧(x.isChan=true→au.ch (f b)))
  (hshr:Shr Wg∧Shr Ch) (hCW:Ch≠Wg) (hwg:WgAt L.tWg Wg w 0 0) (hch:w.heap[Ch]? = some (.chan cap #[] false 0 rz tm)) (hno:NoRelease (stA Wg) t) (hcap:n≤cap) (hn:n<2147483648) (hpay:∀ i,i<o→pay i=none)
  (hKO:KO P S L.tWg Wg Ch (yT Z Shr A f v w) (kO P L.tWg Wg Ch (yT Z Shr A f v w) (yI P L.tWg Wg Ch (yT Z Shr A f v w) (o+n) (Head P S L (yT Z Shr A f v w) au.ch Wg Ch w v.heap.size f End) pay n)) (Az A v).heap.size f w fr cs (Az A v))
  (hEnd:∀ (f':Nat→Nat) (g':Goroutine) (v':World) (gs':Array Goroutine) (w':World) (sl':Option (Nat × Nat)) (t':Trace) (q':Nat→Nat) (sent:List Nat),End g' v'→Mirror P S Z Shr au.ch (o+n) f' g' (pJ A v v') gs' w' t' q'→(∀ i,i<v.heap.size→f' i=f i)→v.heap.size≤v'.heap.size →
   w'.heap[Ch]? = some (.chan cap ((sent.map fun i=>(pay i).getD undef).toArray) false sent.length rz tm)→sent.Nodup→(∀ i,i∈sent↔i<o+n∧(pay i).isSome=true)→aI Z (fun _=>False) w w'→kz P Post (crowd gs' w' sl') t') :
  kz P Post (crowd gs w sl) t:=by
 have hRo:∀ b,yT Z Shr A f v w b→rest Shr w b:=fun b hb=>by
  rcases hb with hb | ⟨a,_,_,_,hb⟩
  ·exact hM.alone b hb
  ·exact hb.1
 have hp:di P S (yT Z Shr A f v w) (keeps Z Shr A f v w) au.ch f (Conc.G fr cs) (Az A v) w:=by
  refine di.freeze hM.oH (fun b hb=>.inl hb) hAo (fun b hb hlt hm=>.inr ⟨b,hb,hlt,rfl,hm⟩) fun b hb hlt hm=>⟨hm,fun hl=>?_⟩
  rcases hl with hl | ⟨a,ha,hla,e,_⟩
  ·exact hm.2 hl
  ·rw [hM.oH.inj a b hla hlt e] at ha
   exact hb ha
 have hW:¬ keeps Z Shr A f v w Wg:=fun h=>h.1.1.2 hshr.1
 have hC:¬ keeps Z Shr A f v w Ch:=fun h=>h.1.1.2 hshr.2
 have hl:Live L.tWg Wg Ch w:=⟨⟨0,0,hwg⟩,cap,#[],0,rz,tm,hch⟩
 have hsp:=KO.spawns (pay:=pay) (n:=o+n) (r:=n) hKO hp (fun b hb=>⟨(hRo b hb).1,fun h=>h.2 hb⟩) hW hC (fun b hb=>⟨hM.calm.base.jT b (hM.shr b hb),fun h=>h.1.1.2 (hM.shr b hb)⟩) hl
 obtain ⟨N,gs',w',sl',t',q',f',g',v',sent,e1,e2,e3,e4,e5,e6,e7,e8,e9⟩:=Mirror.crew (A:=A) (own:=keeps Z Shr A f v w) hM sl (fun b hb=>hM.shr b hb) (fun b hb=>.inl hb) hRo (fun b hb=>⟨hb.1.1,hb.2⟩) (fun b hb hlt hm=>.inr ⟨b,hb,hlt,rfl,hm⟩)
  hshr hCW hwg hch hno hcap hn hpay hsp fun g1 w1 own1 h=>OJ H hCW g1 w1 own1 h
 exact (hEnd f' g' v' gs' w' sl' t' q' sent e2 e3 e4 e5 e6 e7 e8 e9).after e1
end
end Crew
end Go
end
end
section
section
namespace Go
namespace Crew
open Go.Conc Go.ConcN Go.Ren
section
variable [gm] {P:Program} {S:FuncId→Prop} {Z:Nat→Prop} {w0:World} {Post:Value→World→Prop}
theorem NM (w w':World) (og:Obj) (h:w'.heap=w.heap.push og) (hs:w'={ w with heap:=w'.heap,drawn:=w'.drawn }):aI Z (fun _=>False) w w':=by
 have hg:∀ b,b<w.heap.size→w'.heap[b]? = w.heap[b]?:=fun b hb=>by
  rw [h,Array.getElem?_push,if_neg (by omega)]
 refine ⟨by rw [h];simp,fun b hb _=>hg b hb,fun b c e fr hx=>⟨c,fr,by rw [hg b (Array.getElem?_eq_some_iff.1 hx).1];exact hx⟩,⟨fun b o hx hc=>⟨o,by rw [hg b (Array.getElem?_eq_some_iff.1 hx).1];exact hx,hc⟩,by rw [hs],by rw [hs]⟩⟩
theorem lU.make {n:Nat} {F F':Fact} {fr fr':Frame} {cs cs':List Frame} {v:World} {og:Obj} (hog:isCells og=true∨og.isChan=true)
  (hst:Ok P S (Conc.G fr cs) v→∀ (f f1:Nat→Nat) (w1:World),(∀ g,g<P.globals.size→f g=g)→(∀ i,i<v.heap.size→f1 i=f i)→f1 v.heap.size=w1.heap.size→stepG P true (aF f [] (Conc.G fr cs)) w1 = .go (aF f1 [] (Conc.G fr' cs')) { w1 with heap:=w1.heap.push og } #[])
  (hok:Ok P S (Conc.G fr cs) v→Ok P S (Conc.G fr' cs') { v with heap:=v.heap.push (ou og) })
  (hF:∀ Shr Hid o f gs w t q f1 w' t',Mirror P S Z Shr Hid o f (Conc.G fr cs) v gs w t q→F Shr Hid o f w t→w'.heap=w.heap.push og→(∀ i,i<v.heap.size→f1 i=f i)→f1 v.heap.size=w.heap.size→(∀ A,NoRelease A t→NoRelease A t') →
   F' (fun b=>Shr b∨b=w.heap.size) (fun b=>Hid b∨(b=w.heap.size∧og.isChan=true)) o f1 w' t')
  (next:lU P S Z w0 Post (v.heap.size+1) F' fr' cs' { v with heap:=v.heap.push (ou og) }) (hn:n≤v.heap.size):lU P S Z w0 Post n F fr cs v:=by
 intro _ Shr Hid o f gs w sl t q hM hR hf
 obtain ⟨N,gs',w',sl',t',q',f1,e1,e2,e3,e4,e5,e6,e7⟩:=Mirror.make (g':=Conc.G fr' cs') hM sl hog (fun f1 w1 h1 h2=>hst hM.oH.ok f f1 w1 hM.oH.fix h1 h2) (hok hM.oH.ok)
 exact (next (by simp) _ _ o f1 gs' w' sl' t' q' e2 (hR.trans (NM w w' og e3 e7)) (hF Shr Hid o f gs w t q f1 w' t' hM hf e3 e4 e5 e6)).after e1
theorem zS {w w':World} {Ch cap s r cap' s' r':Nat} {buf buf':Array Value} {cl tm cl' tm':Bool} (hZ:¬ Z Ch) (hc:w.heap[Ch]? = some (.chan cap buf cl s r tm)) (h:w'.heap=(w.setChan Ch cap' buf' cl' s' r' tm').heap) (hs:w'={ w with heap:=w'.heap,drawn:=w'.drawn }):aI Z (fun _=>False) w w':=by
 refine ⟨by rw [h];simp [World.setChan],fun b _ ho=>?_,fun b c e fr hx=>?_,⟨fun b o hx ho=>?_,by rw [hs],by rw [hs]⟩⟩
 ·have hne:Ch≠b:=fun e=>by
   rcases ho with ho | ho
   ·exact hZ (e▸ho)
   ·exact ho
  rw [h]
  simp only [World.setChan]
  exact Array.getElem?_setIfInBounds_ne hne
 ·have:=rZ (cap':=cap') (buf':=buf') (cl':=cl') (s':=s') (r':=r') (tm':=tm') hc b c e fr hx
  rw [h];exact this
 ·have:=(pO (cap':=cap') (buf':=buf') (cl':=cl') (s':=s') (r':=r') (tm':=tm') hc).chan b o hx ho
  rw [h];exact this
theorem lU.recv {n:Nat} {F:Fact} {fr fr':Frame} {cs:List Frame} {v:World} {fl:Bool} {z:Value}
  (hF:∀ Shr Hid o f gs w t q,Mirror P S Z Shr Hid o f (Conc.G fr cs) v gs w t q→n≤v.heap.size→F Shr Hid o f w t→∃ (Ch cap s r:Nat) (buf:Array Value) (closed tm:Bool) (F':Fact) (fr':Frame),
   Shr Ch∧w.heap[Ch]? = some (.chan cap buf closed s r tm)∧0<buf.size∧(∀ d,stepG P true (aF f [] (Conc.G fr cs)) (w.at d) = .comm (aF f [] (Conc.G fr cs)) #[rcase Ch z] true (.recv fl) (w.at d) #[]) ∧
   Conc.served (aF f [] (Conc.G fr cs)) (Conc.recvd fl (buf.getD 0 undef) true)=aF f [] (Conc.G fr' cs)∧Ok P S (Conc.G fr' cs) v ∧
   (∀ w' t',w'.heap=(w.setChan Ch cap (buf.extract 1 buf.size) closed s (r+1) tm).heap→F' Shr Hid o f w' t')∧lU P S Z w0 Post n F' fr' cs v):lU P S Z w0 Post n F fr cs v:=by
 intro hn Shr Hid o f gs w sl t q hM hR hf
 obtain ⟨Ch,cap,s,r,buf,closed,tm,F',fr',h1,h2,h3,h4,h5,h6,h7,h8⟩:=hF Shr Hid o f gs w t q hM hn hf
 obtain ⟨N,gs',w',sl',t',q',e1,e2,e3,e4⟩:=Mirror.recv hM sl h1 h4 h2 h3 h5 h6
 exact (h8 hn Shr Hid o f gs' w' sl' t' q' e2 (hR.trans (zS (fun hz=>(hM.alone Ch hz).2 h1) h2 e3 e4)) (h7 w' t' e3)).after e1
theorem lU.shut {n:Nat} {F:Fact} {fr:Frame} {cs:List Frame} {v:World} {fl:Bool} {z:Value}
  (hF:∀ Shr Hid o f gs w t q,Mirror P S Z Shr Hid o f (Conc.G fr cs) v gs w t q→n≤v.heap.size→F Shr Hid o f w t→∃ (Ch cap s r:Nat) (tm:Bool) (F':Fact) (fr':Frame),
   Shr Ch∧w.heap[Ch]? = some (.chan cap #[] true s r tm)∧(∀ d,stepG P true (aF f [] (Conc.G fr cs)) (w.at d) = .comm (aF f [] (Conc.G fr cs)) #[rcase Ch z] true (.recv fl) (w.at d) #[]) ∧
   Conc.served (aF f [] (Conc.G fr cs)) (Conc.recvd fl z false)=aF f [] (Conc.G fr' cs)∧Ok P S (Conc.G fr' cs) v∧(∀ w' t',w'.heap=w.heap→F' Shr Hid o f w' t')∧lU P S Z w0 Post n F' fr' cs v):lU P S Z w0 Post n F fr cs v:=by
 intro hn Shr Hid o f gs w sl t q hM hR hf
 obtain ⟨Ch,cap,s,r,tm,F',fr',h1,h2,h4,h5,h6,h7,h8⟩:=hF Shr Hid o f gs w t q hM hn hf
 obtain ⟨N,gs',w',sl',t',q',e1,e2,e3,e4⟩:=Mirror.Ez hM sl h1 h4 h2 h5 h6
 exact (h8 hn Shr Hid o f gs' w' sl' t' q' e2 (hR.trans ⟨by rw [e3];exact Nat.le_refl _,fun b _ _=>by rw [e3],.of e3,⟨.of e3,by rw [e4],by rw [e4]⟩⟩) (h7 w' t' e3)).after e1
end
end Crew
end Go
end
end
section
section
namespace Go
namespace Ev
open Go.Conc Go.Ren Go.Crew
def TS:Ob→Option Ob
 | .cells c e _=>some (.shut c e)
 | .shut c e=>some (.shut c e)
 | _=>none
def zG:T Ob→T Ob
 | .nil=>.nil
 | .node v l r=>.node (match v with | some o=>TS o | none=>none) (zG l) (zG r)
theorem xG:∀ (t:T Ob) (k:Nat),(zG t).get k=(match t.get k with | some o=>TS o | none=>none)
 | .nil,_=>rfl
 | .node v l r,0=>rfl
 | .node v l r,n+1=>by
  rcases Nat.mod_two_eq_zero_or_one n with hn | hn
  ·rw [T.jB _ _ hn,T.jB _ _ hn]
   exact xG l (n / 2)
  ·rw [T.lJ _ _ hn,T.lJ _ _ hn]
   exact xG r (n / 2)
def H.shut (h:H):H:=⟨zG h.t,h.next,h.log⟩
theorem H.TQ (h:H) (b:Nat):h.shut.get b=(match h.get b with | some o=>TS o | none=>none):=xG h.t b
theorem H.zF {h:H} {b:Nat} {o:Ob} (e:h.shut.get b=some o):∃ o0 c t,h.get b=some o0∧o = .shut c t∧((∃ s,o0 = .cells c t s)∨o0 = .shut c t):=by
 rw [H.TQ] at e
 cases h0:h.get b with
 | none=>rw [h0] at e;cases e
 | some o0=>
  rw [h0] at e
  cases o0 with
  | cells c t s=>cases e;exact ⟨_,c,t,rfl,rfl,.inl ⟨s,rfl⟩⟩
  | shut c t=>cases e;exact ⟨_,c,t,rfl,rfl,.inr rfl⟩
  | _=>cases e
theorem HR.Uz {ρ:aY} {h:H} {v v':World} (hr:HR ρ h v) (hn:gJ v') (hk:∀ b o x k o',h.get b=some o→ρ b = .at_ x k→v.heap[x]? = some o'→OR ρ k o o'→v'.heap[x]? = some o'):HR ρ h v':=
 ⟨hn,fun b o hb=>by
  obtain ⟨x,k,o',h1,h2,h3⟩:=hr.ob b o hb
  exact ⟨x,k,o',h1,hk b o x k o' hb h1 h2 h3,h3⟩,hr.inj⟩
theorem HR.less {ρ:aY} {h h':H} {v:World} (hr:HR ρ h v) (hk:∀ b o,h'.get b=some o→h.get b=some o):HR ρ h' v:=
 ⟨hr.dH,fun b o hb=>hr.ob b o (hk b o hb),fun b c x k l hb hc=>by
  obtain ⟨o1,h1⟩:=Option.isSome_iff_exists.1 hb
  obtain ⟨o2,h2⟩:=Option.isSome_iff_exists.1 hc
  exact hr.inj b c x k l (by rw [hk b o1 h1];rfl) (by rw [hk c o2 h2];rfl)⟩
theorem HR.Az {ρ:aY} {h:H} {v:World} (hr:HR ρ h v) (A:Nat→Prop):HR ρ h.shut (Az A v):=by
 refine ⟨fun x o hx=>?_,fun b o hb=>?_,fun b c x k l hb hc=>?_⟩
 ·obtain ⟨x0,h1,h2 | h2⟩:=rq hx
  ·have:=hr.dH x x0 h1
   rw [h2.2]
   cases x0<;>first | rfl | (cases this;done)
  ·rw [h2.2];exact hr.dH x x0 h1
 ·obtain ⟨o0,c,t,h0,rfl,ho⟩:=H.zF hb
  obtain ⟨x,k,o',h1,h2,h3⟩:=hr.ob b o0 h0
  have key:∃ d r fz,o' = .cells ⟨d++r⟩ t fz∧eQ ρ c d:=by
   rcases ho with ⟨s,rfl⟩ | rfl
   ·obtain ⟨d,r,h4,h5,_⟩:=h3;exact ⟨d,r,_,h4,h5⟩
   ·exact h3
  obtain ⟨d,r,fz,rfl,h5⟩:=key
  by_cases hA:A x
  ·exact ⟨x,k,_,h1,Z8 h2 hA,d,r,_,rfl,h5⟩
  ·exact ⟨x,k,_,h1,by rw [XV hA];exact h2,d,r,_,rfl,h5⟩
 ·obtain ⟨o1,h1⟩:=Option.isSome_iff_exists.1 hb
  obtain ⟨o2,h2⟩:=Option.isSome_iff_exists.1 hc
  obtain ⟨o3,_,_,h3,_⟩:=H.zF h1
  obtain ⟨o4,_,_,h4,_⟩:=H.zF h2
  exact hr.inj b c x k l (by rw [h3];rfl) (by rw [h4];rfl)
theorem gJ.hide {v:World} (h:gJ v) (B:Nat→Prop):gJ (iR B v):=fun x o hx=>by
 obtain ⟨x0,h1,h2 | h2⟩:=kG hx
 ·have:=h x x0 h1
  rw [h2.2]
  cases x0<;>first | rfl | (cases this;done)
 ·rw [h2.2];exact h x x0 h1
theorem HR.hide {ρ:aY} {h:H} {v:World} (hr:HR ρ h v) {B:Nat→Prop} (hB:∀ b x k o,(h.get b).isSome=true→ρ b = .at_ x k→v.heap[x]? = some o→¬ B x∨(lI o=true∧∃ c t,h.get b=some (.shut c t))):HR ρ h (iR B v):=by
 refine ⟨hr.dH.hide B,fun b o hb=>?_,hr.inj⟩
 obtain ⟨x,k,o',h1,h2,h3⟩:=hr.ob b o hb
 by_cases hBx:B x
 ·rcases hB b x k o' (by rw [hb];rfl) h1 h2 with h4 | ⟨h4,c,t,h5⟩
  ·exact absurd hBx h4
  ·rw [hb] at h5
   cases h5
   obtain ⟨d,r,fz,rfl,h6⟩:=h3
   have hd:d=[]:=by
    have:(d++r).toArray.isEmpty=true:=h4
    simp at this
    exact this.1
   subst hd
   refine ⟨x,k,.cells #[] t (0,0),h1,?_,[],[],_,rfl,h6⟩
   simp only [iR,Array.getElem?_mapIdx,h2,Option.map_some,if_pos hBx]
   rfl
 ·exact ⟨x,k,o',h1,by rw [FO hBx];exact h2,h3⟩
theorem HR.pJ {ρ:aY} {h:H} {v:World} (hr:HR ρ h v) {A:Nat→Prop} (hA:∀ b x k o,(h.get b).isSome=true→ρ b = .at_ x k→v.heap[x]? = some o→A x) {v':World} (hv':gJ v') (hsz:v.heap.size≤v'.heap.size):HR ρ h (pJ A v v'):=
 hr.Uz (fun x o hx=>by
  rcases kK hx with ⟨_,h1⟩ | ⟨_,h1⟩
  ·exact hr.dH x o h1
  ·exact hv' x o h1) fun b o x k o' hb hx ho _=>by
  have hlt:=(Array.getElem?_eq_some_iff.1 ho).1
  have hAx:=hA b x k o' (by rw [hb];rfl) hx ho
  simp only [Crew.pJ,Array.getElem?_mapIdx,Array.getElem?_eq_getElem (Nat.lt_of_lt_of_le hlt hsz),Option.map_some,if_pos (And.intro hAx hlt)]
  rw [ho];rfl
end Ev
end Go
end
end
section
section
namespace Go
namespace Crew
open Go.Conc Go.ConcN Go.Ren
def ckW (P:Program) (L N:List FuncId) (t:Ev.T Value) (o:Oper):Bool:=
 match o.op with
 | .call c=>gB P L o&&(match c.callee with
  | .value f=>match Ev.aG t f,Ev.opts (Ev.aG t) c.args.toList with
   | some (.func (.func g) ⟨a⟩ ⟨b⟩),some as=>L.contains g && !N.contains g&&Ev.fO L (a++as++b)
   | _,_=>false
  | _=>false)
 | _=>Ev.Pn P L t o
section
variable [au] {P:Program} {L N:List FuncId} {ty:TypeId} {Wg Ch:Nat} {Ro:Nat→Prop} {B:List Frame} {D:List Deferred} {k:Kind} {n0:Nat} {f0:Nat→Nat} {w0:World}
theorem KW.one (hz:aN P) (hS:kU P (· ∈ L)) (hq:k.quiet=false) (hX:∀ e r,au.ch r→rQ r e→k.X e) {inv:Ev.Iv} (hI:∀ f args h v h',inv (.func f) args h=some (v,h')→Ev.aV P f args h v h')
  {ρ:Ev.aY} {n:Nat} {t:Ev.T Value} {h h':Ev.H} {o:Oper} {v:Value} {ops:Array Oper} {i:Nat} {rest:List Nat} {b:Frame} {a:Act} {kk:List Item} {w:World} (hbr:b.roundOf=none)
  (e:Ev.lT P inv t h o.op=some (v,h')) (hc:ckW P L N t o=true) (ho:ops[i]? = some o) (hw:Region.wanted o (yielded ops a.tmps)=true) (ht:Ev.TR ρ n t a.tmps) (hr:Ev.HR ρ h w) (hu:Ev.gK ρ h.next h'.next)
  (next:∀ ρ' v' w',Ev.Stp ρ h w ρ' h' w'→Ev.HR ρ' h' w'→Ev.VR ρ' v v'→@KW (aK P L N) _ P (· ∈ L) ty Wg Ch Ro B D k n0 f0 w0 (b.atR (a.put o.dst v') (.inRegion ops rest::kk)) w'):@KW (aK P L N) _ P (· ∈ L) ty Wg Ch Ro B D k n0 f0 w0 (b.atR a (.inRegion ops (i::rest)::kk)) w:=by
 by_cases hcall:∃ c,o.op = .call c
 ·obtain ⟨⟨cal,xs,ats⟩,hop⟩:=hcall
  unfold ckW at hc
  rw [hop] at hc e
  simp only [Bool.and_eq_true] at hc
  obtain ⟨hb,hc⟩:=hc
  split at hc
  ·rename_i f
   split at hc
   ·rename_i g pa pb as hf has
    simp only [Bool.and_eq_true,Bool.not_eq_true'] at hc
    obtain ⟨⟨hgL,hgN⟩,hcl⟩:=hc
    have e':inv (.func g) (pa++as++pb) h=some (v,h'):=by
     have e1:Ev.Gp inv t h f xs.toList=some (v,h'):=by simpa [Ev.lT,Ev.qh] using e
     unfold Ev.Gp at e1
     simp only [hf] at e1
     have has':Ev.opts (Ev.aG t) xs.toList=some as:=has
     simp only [has'] at e1
     simpa [Ev.callee] using e1
    have hE:=Ev.dh ht
    have hv:=Ev.gz hE hf
    have hF:=hI _ _ _ _ _ e'
    obtain ⟨_,fn,cd,q1,q2,q3,_⟩:=id hF
    have has':Ev.eQ ρ as (xs.toList.map a.eval):=hE.opts has
    generalize hfv:a.eval f=fv at hv
    cases hv with
    | same h=>cases h
    | func h1 h2=>
     rename_i a' b'
     have e1:xs.map a.eval=⟨xs.toList.map a.eval⟩:=by apply Array.ext';simp
     have hres:resolve a.eval { callee:=.value f,args:=xs,argTypes:=ats } o.type=pure { target:=.fn (.func g) ⟨b'⟩,args:=⟨a'⟩++⟨xs.toList.map a.eval⟩ }:=by
      unfold resolve
      simp only [hfv,e1,Deferred.ofValue]
     have hlone:∀ w:World,(execOp a.eval o).run P w = .ok (.enter g ⟨a'++xs.toList.map a.eval++b'⟩) w:=fun w=>by
      unfold execOp
      rw [hop]
      show (do let d ← resolve a.eval _ o.type;invoke d.target d.args:Sem Next).run P w=_
      rw [hres]
      have hcf:=Ev.jg q1 q3 q2 ⟨a'++xs.toList.map a.eval++b'⟩ w
      have e2:(⟨a'⟩++⟨xs.toList.map a.eval⟩:Array Value)++⟨b'⟩=⟨a'++xs.toList.map a.eval++b'⟩:=by simp
      simp only [Sem.run_bind,Sem.run_pure,Result.andThen,invoke,e2,hcf]
     exact KW.VO hz hS hq hX hbr ho hw hop hb hlone hres (fun w g' hg=>(Option.some.inj hg).symm) (by simpa using hgL) (by simpa using hgN) ((h1.append has').append h2) hcl hF hr hu next
   ·cases hc
  ·cases hc
 ·have hnc:∀ c,o.op ≠ .call c:=fun c hh=>hcall ⟨c,hh⟩
  have hc':Ev.Pn P L t o=true:=by
   unfold ckW at hc
   split at hc
   ·rename_i c hop;exact absurd hop (hnc c)
   ·exact hc
  refine KW.opE hz hS hq hX (t:=t) hbr ?_ hc' ho hw ht hr hu next
  unfold Ev.lT at e
  split at e
  ·rename_i hp
   rw [hp]
   split at e
   ·rename_i u hu';cases e;simp [hu']
   ·cases e
  ·rename_i hp
   rw [hp]
   split at e
   ·rename_i c hop;exact absurd hop (hnc c)
   ·simpa using e
theorem KW.ops (hz:aN P) (hS:kU P (· ∈ L)) (hq:k.quiet=false) (hX:∀ e r,au.ch r→rQ r e→k.X e) {inv:Ev.Iv} (hN:Ev.lQ inv) (hI:∀ f args h v h',inv (.func f) args h=some (v,h')→Ev.aV P f args h v h')
  {n:Nat} {ops:Array Oper} {rest:List Nat} {b:Frame} {kk:List Item} (hbr:b.roundOf=none):∀ {l:List Oper} {i:Nat} {t t':Ev.T Value} {h h':Ev.H},(∀ j,j<l.length→ops[i+j]? = l[j]?)→Ev.jm P inv ⟨ckW P L N,fun _=>false⟩ n ops.toList l t h=some (t',h') →
  ∀ {ρ:Ev.aY} {a:Act} {w:World},Ev.TR ρ n t a.tmps→Ev.HR ρ h w→Ev.gK ρ h.next h'.next→(∀ ρ' a' w',a'.defers=a.defers→Ev.Stp ρ h w ρ' h' w'→Ev.HR ρ' h' w'→Ev.TR ρ' n t' a'.tmps→@KW (aK P L N) _ P (· ∈ L) ty Wg Ch Ro B D k n0 f0 w0 (b.atR a' (.inRegion ops rest::kk)) w') →
   @KW (aK P L N) _ P (· ∈ L) ty Wg Ch Ro B D k n0 f0 w0 (b.atR a (.inRegion ops (List.range' i l.length++rest)::kk)) w
 | [],i,t,t',h,h',hl,e,ρ,a,w,ht,hr,hu,hk=>by
  cases e
  exact hk ρ a w rfl (.refl ρ h _ _ rfl) hr ht
 | o::l,i,t,t',h,h',hl,e,ρ,a,w,ht,hr,hu,hk=>by
  have ho:ops[i]? = some o:=by simpa using hl 0 (by simp)
  have hl':∀ j,j<l.length→ops[i+1+j]? = l[j]?:=fun j hj=>by
   have:=hl (j+1) (by simp;omega)
   rw [show i+(j+1)=i+1+j by omega] at this
   simpa using this
  have hrange:List.range' i (o::l).length++rest=i::(List.range' (i+1) l.length++rest):=by simp [List.range'_succ]
  rw [hrange]
  simp only [Ev.jm] at e
  split at e
  ·rename_i hw
   have hwant:=Ev.dP ht hw
   split at e
   case h_2=>cases e
   rename_i hck
   split at e
   ·rename_i v h1 e1
    split at e
    ·rename_i t1 e2
     have n1:=Ev.qo hN e1
     have n2:=Ev.dX hN e
     refine KW.one hz hS hq hX hI hbr e1 hck ho hwant ht hr (hu.sub (Nat.le_refl _) n2) fun ρ1 v' w1 s2 s3 s4=>?_
     have ht1:Ev.TR ρ1 n t1 (a.put o.dst v').tmps:=(ht.mono s2.le).put e2 s4
     exact KW.ops hz hS hq hX hN hI hbr hl' e ht1 s3 ((hu.sub n1 (Nat.le_refl _)).step s2 (Nat.le_refl _)) fun ρ2 a2 w2 d1 d2 d3 d4=>hk ρ2 a2 w2 (by rw [d1,Ev.put_defers]) (s2.trans d2) d3 d4
    ·cases e
   ·cases e
  ·cases e
  ·cases e
end
end Crew
end Go
end
end
section
section
namespace Go
namespace Crew
open Go.Conc Go.ConcN Go.Ren Go.Conc.Lib Go.ConcR.Gen Go.ConcN.Gen
section
variable [au] {P:Program} {L N:List FuncId} {ty:TypeId} {Wg Ch:Nat} {Ro:Nat→Prop} {B:List Frame} {D:List Deferred} {k:Kind} {n0:Nat} {f0:Nat→Nat} {w0:World}
theorem KW.nil (hz:aN P) (hS:kU P (· ∈ L)) (hq:k.quiet=false) (hX:∀ e r,au.ch r→rQ r e→k.X e) {b:Frame} {a:Act} {v:World} (hbr:b.roundOf=none)
  (next:∀ t,@KW (aK P L N) _ P (· ∈ L) ty Wg Ch Ro B D k n0 f0 w0 { b.atR a [] with mode:=.returning } (wt v t)):@KW (aK P L N) _ P (· ∈ L) ty Wg Ch Ro B D k n0 f0 w0 (b.atR a []) v:=by
 have h1:∀ t,stepG P true (Conc.G (b.atR a []) [bottom]) (wt v t) = .go (Conc.G { b.atR a [] with mode:=.returning } [bottom]) (wt v t) #[]:=fun t=>by
  unfold Conc.G
  simp [stepG,stepG.exec,Frame.atR,hbr]
 refine @KW.step (aK P L N) _ _ _ _ _ _ _ _ _ _ _ _ _ hz hS hq hX _ _ (@DU P (aK P L N) _ _ rfl rfl) (fun _=>{ b.atR a [] with mode:=.returning }) (fun t=>wt v t) (fun _=>#[]) h1 (fun _=>trivial) (fun _ hc=>Ren.aX hc rfl) (fun _=>.of rfl) (fun t f' w1 w2 es _ _ _ _ h2=>?_) next
 exact IJ (fr:=b.atR a []) (fr1:={ b.atR a [] with mode:=.returning }) D rfl hbr rfl f' w1 w2 es h2
theorem go_step {b:Frame} {a:Act} {k k':List Item} {cs:List Frame} (h:∀ w:World,(stepG P true (Conc.G (b.atR a k) cs) w) = .go (Conc.G (b.atR a k') cs) w #[]) (w:World):∃ es,stepG P true (Conc.G (b.atR a k) cs) w = .go (Conc.G (b.atR a k') cs) w es:=⟨#[],h w⟩
end
def PH (P:Program) (L N:List FuncId) (inv:Ev.Iv) (n:Nat) (x0:Operand) (iI:List Oper) (cnd:Operand) (ops2 l2:List Oper) (ch x:Operand) (nW nC hi:Nat) (args:List Value) (h:Ev.H):Option (Option Value):=
 match Ev.qI 0 args .nil with
 | some t0=>match Ev.aG t0 x0 with
  | some (.pointer (some ⟨w,0,none⟩))=>match Nat.beq w nW,Ev.jm P inv ⟨ckW P L N,fun _=>false⟩ n iI iI t0 h with
   | true,some (t1,h1)=>match Ev.aG t1 cnd with
    | some (.bool false)=>match Nat.ble h1.next hi with
     | true=>some none
     | false=>none
    | some (.bool true)=>match Ev.jm P inv ⟨ckW P L N,fun _=>false⟩ n ops2 l2 t1 h1 with
     | some (t2,h2)=>match Nat.ble h2.next hi,Ev.aG t2 ch,Ev.aG t2 x with
      | true,some (.chan (some c)),some (.int kd z)=>match Nat.beq c nC with
       | true=>some (some (.int kd z))
       | false=>none
      | _,_,_=>none
     | none=>none
    | _=>none
   | _,_=>none
  | _=>none
 | none=>none
section
variable [au] {P:Program} {L N:List FuncId} {Lk:WgLink} {Wg Ch:Nat} {Ro:Nat→Prop} {n0:Nat} {f0:Nat→Nat} {w0:World}
theorem kL {ρ ρ':Ev.aY} {h h':Ev.H} {w w':World} (s:Ev.Stp ρ h w ρ' h' w') {b:Nat} (h1:h.get b=none) (h2:b<h.next) (h3:ρ b ≠ .aT):ρ' b=ρ b:=by
 obtain ⟨l,_,_,_,q1,_,q2⟩:=s.log
 refine q2 b (fun hb=>?_) h3
 rcases q1 b hb with h4 | h4
 ·rw [h1] at h4;cases h4
 ·omega
theorem KW.worker (hz:aN P) (hS:kU P (· ∈ L)) (H:WgLib P Lk) (hCW:Ch≠Wg) (hRW:¬ Ro Wg) {inv:Ev.Iv} (hN:Ev.lQ inv) (hI:∀ f args h v h',inv (.func f) args h=some (v,h')→Ev.aV P f args h v h')
  {wc:FuncId} {fn:Func} (hf:P.funcs[wc]? = some fn) {j0 j1 j2:Nat} {o0 so:Oper} {iI ops2:Array Oper} {l2:List Oper} {cnd:Operand}
  (hb:fn.body=some (.seq (.region j0 #[o0] false) (.seq (.region j1 iI false) (.cond cnd (.region j2 ops2 false) .skip)))) (hres:fn.results=#[])
  {x0:Operand} {VV:Array TypeId} (h0:o0.op = .defer { callee:=.value (.func Lk.done),args:=#[x0],argTypes:=VV }) (hg0:o0.guard=none) (hd0:o0.dst=none) (hx0:bG P (@Ren.Nm (aK P L N) (· ∈ L)) x0)
  (h2:ops2.toList=l2++[so]) {ch x:Operand} (hso:so.op = .send ch x) (hsg:so.guard=none) (hch:bG P (@Ren.Nm (aK P L N) (· ∈ L)) ch) (hx:bG P (@Ren.Nm (aK P L N) (· ∈ L)) x)
  {args args':List Value} {h:Ev.H} {nW nC hi bW kW bC kC:Nat} {pay:Option Value} (e:PH P L N inv (args.length+(fn.ntmps - args.length)) x0 iI.toList cnd ops2.toList l2 ch x nW nC hi args h=some pay)
  {ρ:Ev.aY} {v:World} (ha:Ev.eQ ρ args args') (hr:Ev.HR ρ h v) (hu:Ev.gK ρ h.next hi) (hhi:h.next≤hi)
  (hW:ρ nW = .at_ bW kW) (hbW:bW<n0) (hfW:f0 bW=Wg) (hC:ρ nC = .at_ bC kC) (hbC:bC<n0) (hfC:f0 bC=Ch) (hnC:h.get nC=none) (hnC2:nC<h.next) :
  @KW (aK P L N) _ P (· ∈ L) Lk.tWg Wg Ch Ro [under P] [] (kV P Lk.tWg Wg Ch Ro (kN (zi P Lk.tWg Wg Ch Ro pay))) n0 f0 w0 (Frame.enter P wc ⟨args'⟩ .deferred) v:=by
 unfold PH at e
 split at e
 case h_2=>cases e
 rename_i t0 et0
 split at e
 case h_2=>cases e
 rename_i w' ew0
 split at e
 case h_2=>cases e
 rename_i t1 h1 hw e1
 obtain rfl:=Nat.eq_of_beq_eq_true hw
 let b:Frame:={ (default:Frame) with fn:=wc,kind:=.deferred }
 have hl:=ha.length
 have henter:Frame.enter P wc ⟨args'⟩ .deferred=b.atR { tmps:=(⟨args'⟩:Array Value)++Array.replicate (fn.ntmps - args.length) undef,defers:=[] } [.code (.seq (.region j0 #[o0] false) (.seq (.region j1 iI false) (.cond cnd (.region j2 ops2 false) .skip)))]:=by
  simp [Frame.enter,Frame.atR,hf,hb,b,hl]
  rfl
 rw [henter]
 have hbr:b.roundOf=none:=rfl
 have hX:∀ pay e r,au.ch r→rQ r e→(kV P Lk.tWg Wg Ch Ro (kN (zi P Lk.tWg Wg Ch Ro pay))).X e:=fun _ e r h1 h2=>⟨r,h1,h2⟩
 have hX0:∀ e r,au.ch r→rQ r e→(kV P Lk.tWg Wg Ch Ro (kN (Ns P Lk.tWg Wg Ch Ro))).X e:=fun e r h1 h2=>⟨r,h1,h2⟩
 have ht0:Ev.TR ρ (args.length+(fn.ntmps - args.length)) t0 ((⟨args'⟩:Array Value)++Array.replicate (fn.ntmps - args.length) undef):=Ev.ve et0 ha
 generalize hn:args.length+(fn.ntmps - args.length)=n at e e1 ht0
 generalize hA:({ tmps:=(⟨args'⟩:Array Value)++Array.replicate (fn.ntmps - args.length) undef,defers:=[] }:Act)=a0
 have ht0':Ev.TR ρ n t0 a0.tmps:=by rw [←hA];exact ht0
 clear ht0
 have leave:∀ (a:Act) (v:World),@KW (aK P L N) _ P (· ∈ L) Lk.tWg Wg Ch Ro [under P] [doneD Lk.done Wg] (kV P Lk.tWg Wg Ch Ro (kN (Ns P Lk.tWg Wg Ch Ro))) n0 f0 w0 (b.atR a []) v:=fun a v=>by
  refine KW.nil hz hS rfl hX0 hbr fun t=>?_
  exact @KW.leave (aK P L N) _ P (· ∈ L) Lk Wg Ch Ro n0 f0 w0 H hCW hRW { b.atR a [] with mode:=.returning } (wt v t) fn rfl rfl hf hres
 refine KW.item hz hS rfl (hX pay) hbr rfl rfl (go_step (k':=.code (.region j0 #[o0] false) :: .code (.seq (.region j1 iI false) (.cond cnd (.region j2 ops2 false) .skip))::[]) fun w=>by unfold Conc.G;simp [stepG,stepG.exec,Frame.atR]) fun tp1=>?_
 refine KW.item hz hS rfl (hX pay) hbr rfl rfl (go_step (k':=.inRegion #[o0] [0] :: .code (.seq (.region j1 iI false) (.cond cnd (.region j2 ops2 false) .skip))::[]) fun w=>by unfold Conc.G;simp [stepG,stepG.exec,Frame.atR]) fun tp2=>?_
 have hw0:Region.wanted o0 (yielded #[o0] a0.tmps)=true:=by unfold Region.wanted;rw [hg0]
 have hev0:(b.atR a0 (.inRegion #[o0] [0] :: .code (.seq (.region j1 iI false) (.cond cnd (.region j2 ops2 false) .skip))::[])).eval x0 = .pointer (some ⟨bW,0,none⟩):=by
  have h3:=Ev.dh ht0' _ _ ew0
  obtain ⟨a',h4,h5⟩:=h3.iQ
  rw [show (b.atR a0 (.inRegion #[o0] [0] :: .code (.seq (.region j1 iI false) (.cond cnd (.region j2 ops2 false) .skip))::[])).eval x0=a0.eval x0 from congrFun (Frame.eval_atR b a0 _) x0,h4]
  obtain ⟨ab,ao,as⟩:=a'
  have h6:ab=bW:=h5.block.at_ hW
  have h7:ao=0:=h5.off
  have h8:as=none:=h5.spot'
  rw [h6,h7,h8]
 refine @KW.defer (aK P L N) _ P (· ∈ L) Lk.tWg Wg Ch Ro [under P] _ n0 f0 w0 (b.atR a0 (.inRegion #[o0] [0] :: .code (.seq (.region j1 iI false) (.cond cnd (.region j2 ops2 false) .skip))::[])) _ #[o0] 0 [] _ o0 Lk.done x0 bW VV rfl hbr rfl rfl hw0 h0 hx0 hev0 hbW hfW ?_
 rw [Frame.finish_atR]
 simp only [List.getElem?_toArray,List.getElem?_cons_zero,Option.bind_some,hd0]
 have hput:a0.put none undef=a0:=rfl
 rw [hput]
 generalize hv1:wt (wt v tp1) tp2=v1
 have hr1:Ev.HR ρ h v1:=hr.heap (by rw [←hv1];rfl)
 refine KW.item hz hS rfl (hX pay) hbr rfl rfl (go_step (k':=.code (.seq (.region j1 iI false) (.cond cnd (.region j2 ops2 false) .skip))::[]) fun w=>by unfold Conc.G;simp [stepG,stepG.exec,Frame.atR]) fun tp3=>?_
 refine KW.item hz hS rfl (hX pay) hbr rfl rfl (go_step (k':=.code (.region j1 iI false) :: .code (.cond cnd (.region j2 ops2 false) .skip)::[]) fun w=>by unfold Conc.G;simp [stepG,stepG.exec,Frame.atR]) fun tp4=>?_
 refine KW.item hz hS rfl (hX pay) hbr rfl rfl (go_step (k':=.inRegion iI (List.range iI.size) :: .code (.cond cnd (.region j2 ops2 false) .skip)::[]) fun w=>by unfold Conc.G;simp [stepG,stepG.exec,Frame.atR]) fun tp5=>?_
 generalize hv2:wt (wt (wt v1 tp3) tp4) tp5=v2
 have hr2:Ev.HR ρ h v2:=hr1.heap (by rw [←hv2];rfl)
 have n1:=Ev.dX hN e1
 have hnn:h1.next≤hi:=by
  split at e
  ·split at e
   ·rename_i hb;exact Nat.le_of_ble_eq_true hb
   ·cases e
  ·split at e
   ·rename_i t2 h2' e2
    split at e
    ·rename_i hb _ _
     exact Nat.le_trans (Ev.dX hN e2) (Nat.le_of_ble_eq_true hb)
    ·cases e
   ·cases e
  ·cases e
 have hrng1:List.range iI.size=List.range' 0 iI.toList.length++[]:=by rw [List.append_nil,List.range_eq_range'];simp
 rw [hrng1]
 refine KW.ops hz hS rfl (hX pay) hN hI hbr (l:=iI.toList) (i:=0) (rest:=[]) (fun j _=>by simp) e1 ht0' hr2 (hu.sub (Nat.le_refl _) hnn) fun ρ1 a1 w1 d1 s1 r1 q1=>?_
 refine KW.item hz hS rfl (hX pay) hbr rfl rfl (go_step (k':=.code (.cond cnd (.region j2 ops2 false) .skip)::[]) fun w=>by unfold Conc.G;simp [stepG,stepG.exec,Frame.atR]) fun tp6=>?_
 split at e
 ·
  rename_i ec
  have hpay:pay=none:=by
   split at e
   ·exact (Option.some.inj e).symm
   ·cases e
  subst hpay
  have hbv:a1.eval cnd = .bool false:=(Ev.dh q1 _ _ ec).dQ
  refine KW.item hz hS rfl (hX none) hbr rfl rfl (go_step (k':=.code .skip::[]) fun w=>by
   have:=congrFun (Frame.eval_atR b a1 (.code (.cond cnd (.region j2 ops2 false) .skip)::[])) cnd
   simp only [Frame.atR] at this
   unfold Conc.G
   simp [stepG,stepG.exec,Frame.atR,this,hbv]) fun tp7=>?_
  refine KW.item hz hS rfl (hX none) hbr rfl rfl (go_step (k':=[]) fun w=>by unfold Conc.G;simp [stepG,stepG.exec,Frame.atR]) fun tp8=>?_
  exact leave _ _
 ·
  rename_i ec
  split at e
  case h_2=>cases e
  rename_i t2 h2' e2
  split at e
  case h_2=>cases e
  rename_i c kd z hbl ech ex
  split at e
  case h_2=>cases e
  rename_i hcc
  obtain rfl:=Nat.eq_of_beq_eq_true hcc
  obtain rfl:=Option.some.inj e
  have hbv:a1.eval cnd = .bool true:=(Ev.dh q1 _ _ ec).dQ
  refine KW.item hz hS rfl (hX _) hbr rfl rfl (go_step (k':=.code (.region j2 ops2 false)::[]) fun w=>by
   have:=congrFun (Frame.eval_atR b a1 (.code (.cond cnd (.region j2 ops2 false) .skip)::[])) cnd
   simp only [Frame.atR] at this
   unfold Conc.G
   simp [stepG,stepG.exec,Frame.atR,this,hbv]) fun tp7=>?_
  refine KW.item hz hS rfl (hX _) hbr rfl rfl (go_step (k':=.inRegion ops2 (List.range ops2.size)::[]) fun w=>by unfold Conc.G;simp [stepG,stepG.exec,Frame.atR]) fun tp8=>?_
  have hlen:ops2.size=l2.length+1:=by rw [←Array.length_toList,h2];simp
  have hrng:List.range ops2.size=List.range' 0 l2.length++[l2.length]:=by
   rw [hlen,List.range_eq_range',List.range'_concat];simp
  rw [hrng]
  have hle2:=Nat.le_of_ble_eq_true hbl
  have hget2:∀ j,ops2[j]? = (l2++[so])[j]?:=fun j=>by rw [←h2,Array.getElem?_toList]
  have n2:=Ev.dX hN e2
  refine KW.ops hz hS rfl (hX _) hN hI hbr (l:=l2) (i:=0) (rest:=[l2.length]) (fun j hj=>by rw [Nat.zero_add,hget2,List.getElem?_append_left hj]) e2 q1 (r1.heap rfl) ((hu.sub n1 hle2).step s1 (Nat.le_refl _)) fun ρ2 a2 w2 d2 s2 r2 q2=>?_
  have hk1:ρ1 c=ρ c:=kL s1 hnC hnC2 (by rw [hC];simp)
  have hg1:h1.get c=none:=by
   obtain ⟨l,_,_,_,p1,p2,_⟩:=s1.log
   by_cases hm:c∈l
   ·rcases p1 c hm with h4 | h4
    ·rw [hnC] at h4;cases h4
    ·omega
   ·rw [p2 c hm];exact hnC
  have hk2:ρ2 c=ρ c:=(kL s2 hg1 (Nat.lt_of_lt_of_le hnC2 n1) (by rw [hk1,hC];simp)).trans hk1
  have hso':ops2[l2.length]? = some so:=by rw [hget2];simp
  have hws:Region.wanted so (yielded ops2 a2.tmps)=true:=by unfold Region.wanted;rw [hsg]
  have hevc:(b.atR a2 (.inRegion ops2 [l2.length]::[])).eval ch = .chan (some bC):=by
   have h3:=Ev.dh q2 _ _ ech
   rw [show (b.atR a2 (.inRegion ops2 [l2.length]::[])).eval ch=a2.eval ch from congrFun (Frame.eval_atR b a2 _) ch]
   generalize a2.eval ch=u at h3
   cases h3 with
   | same h=>cases h
   | chan h4=>rw [h4.at_ (hk2.trans hC)]
  have hevx:(b.atR a2 (.inRegion ops2 [l2.length]::[])).eval x = .int kd z:=by
   have h3:=Ev.dh q2 _ _ ex
   rw [show (b.atR a2 (.inRegion ops2 [l2.length]::[])).eval x=a2.eval x from congrFun (Frame.eval_atR b a2 _) x]
   exact h3.flat rfl
  refine @KW.send (aK P L N) _ P (· ∈ L) Lk.tWg Wg Ch Ro [under P] [doneD Lk.done Wg] n0 f0 w0 (b.atR a2 (.inRegion ops2 [l2.length]::[])) w2 ops2 l2.length [] [] so ch x bC (.int kd z) rfl hbr rfl hso' hws hso hch hx hevc hbC hfC hevx rfl ?_
  rw [Frame.finish_atR]
  refine KW.item hz hS rfl hX0 hbr rfl rfl (Ev.nJ) fun tp9=>?_
  exact leave _ _
 ·cases e
end
end Crew
end Go
end
end
section
section
namespace Go
namespace Ev
open Go.Conc Go.Ren
variable {P:Program} {L N:List FuncId} {K:Frame→List Frame→World→Prop}
def jU (P:Program) (L:List FuncId) (n:Nat) (all:List Oper):List Oper→T Value→Option (T Value)
 | [],t=>some t
 | o::l,t=>match jH all t o,qh o.op&&Pn P L t o with
  | some true,true=>match jQ P (aG t) o.op with
   | some v=>match jl t n o.dst v with
    | some t'=>jU P L n all l t'
    | none=>none
   | none=>none
  | _,_=>none
theorem kH.Us (hK:kH P L N K) {ρ:Ev.aY} {n:Nat} {ops:Array Oper} {rest:List Nat} {b:Frame} {k:List Item} {cs:List Frame} (hcs:qM cs):∀ {l:List Oper} {i:Nat} {t t':T Value},(∀ j,j<l.length→ops[i+j]? = l[j]?)→jU P L n ops.toList l t=some t' →
  ∀ {a:Act} {w:World},TR ρ n t a.tmps→(∀ a' w',a'.defers=a.defers→w'.heap=w.heap→TR ρ n t' a'.tmps→K (b.atR a' (.inRegion ops rest::k)) cs w')→K (b.atR a (.inRegion ops (List.range' i l.length++rest)::k)) cs w
 | [],i,t,t',hl,e,a,w,ht,hk=>by
  cases e
  exact hk a w rfl rfl ht
 | o::l,i,t,t',hl,e,a,w,ht,hk=>by
  have ho:ops[i]? = some o:=by simpa using hl 0 (by simp)
  have hl':∀ j,j<l.length→ops[i+1+j]? = l[j]?:=fun j hj=>by
   have:=hl (j+1) (by simp;omega)
   rw [show i+(j+1)=i+1+j by omega] at this
   simpa using this
  have hrange:List.range' i (o::l).length++rest=i::(List.range' (i+1) l.length++rest):=by simp [List.range'_succ]
  rw [hrange]
  simp only [jU] at e
  split at e
  ·rename_i hw hc
   simp only [Bool.and_eq_true] at hc
   split at e
   ·rename_i v e1
    split at e
    ·rename_i t1 e2
     have hcc:=hc.2
     unfold Pn at hcc
     simp only [Bool.and_eq_true,Bool.not_eq_true'] at hcc
     refine hK.own (jb ho hcc.1.2 hcc.1.1) fun tp=>?_
     obtain ⟨v',q1,q2⟩:=pure_ok (o:=o) (dh ht) e1 (wt w tp)
     obtain ⟨es,hst⟩:=ku (b:=b) (k:=k) (cs:=cs) (rest:=List.range' (i+1) l.length++rest) ho (dP ht hw) (gq e1) q1 (.inl rfl)
     refine ⟨_,_,_,es,hst,trivial,hcs,fun hcl=>Ren.aX hcl rfl,.of rfl,?_⟩
     exact kH.Us hK hcs hl' e (ht.put e2 q2) fun a2 w2 d1 d2 d3=>hk a2 w2 (by rw [d1,put_defers]) (by rw [d2];rfl) d3
    ·cases e
   ·cases e
  ·cases e
def strike (t:T Value) (d:Nat):T Value:=T.put T.deep t d none
theorem TR.forget {ρ:Ev.aY} {n:Nat} {t:T Value} {a:Act} (h:TR ρ n t a.tmps) {d:Nat} (hd:d<top) (v:Value):TR ρ n (strike t d) (a.put (some d) v).tmps:=by
 refine ⟨by simp [Act.put,h.size],fun i u hu=>?_⟩
 unfold strike at hu
 rw [T.get_put _ _ _ _ _ (aO hd)] at hu
 split at hu
 ·cases hu
 ·rename_i hne
  obtain ⟨v',h1,h2⟩:=h.get i u hu
  refine ⟨v',?_,h2⟩
  simp only [Act.put]
  rw [Array.getElem?_setIfInBounds_ne (fun e=>hne e.symm)];exact h1
theorem TR.know {ρ:Ev.aY} {n:Nat} {t:T Value} {a:Array Value} (h:TR ρ n t a) {d:Nat} (hd:d<top) {u v:Value} (hv:a[d]? = some v) (hr:VR ρ u v):TR ρ n (T.put T.deep t d (some u)) a:=by
 refine ⟨h.size,fun i x hx=>?_⟩
 rw [T.get_put _ _ _ _ _ (aO hd)] at hx
 split at hx
 ·rename_i e;cases hx;subst e;exact ⟨v,hv,hr⟩
 ·exact h.get i x hx
theorem lG (a:Act) {d:Nat} (hd:d<a.tmps.size) (v:Value):(a.put (some d) v).tmps[d]? = some v:=by simp [Act.put,hd]
theorem pq (a:Act) {d j:Nat} (h:j≠d) (v:Value):(a.put (some d) v).tmps[j]? = a.tmps[j]?:=by
 simp only [Act.put]
 exact Array.getElem?_setIfInBounds_ne (fun e=>h e.symm)
theorem kH.alloc1 (hK:kH P L N K) {ops:Array Oper} {i:Nat} {rest:List Nat} {o:Oper} {b:Frame} {a:Act} {k:List Item} {cs:List Frame} {w:World} {tid:TypeId} {z:Value} (hcs:qM cs) (ho:ops[i]? = some o) (hw:Region.wanted o (yielded ops a.tmps)=true) (hop:o.op = .alloc tid) (hb:gB P L o=true) (hz:zeroOf P tid=some z)
  (hk:∀ w':World,w'.heap=w.heap.push (.cells z.cells tid)→K (b.atR (a.put o.dst (.pointer (some ⟨w.heap.size,0,none⟩))) (.inRegion ops rest::k)) cs w'):K (b.atR a (.inRegion ops (i::rest)::k)) cs w:=by
 refine hK.own (jb ho (by rw [hop];rfl) hb) fun tp=>?_
 obtain ⟨hzr,hzf⟩:=jG hz (wt w tp)
 have hr:(execOp a.eval o).run P (wt w tp) = .ok (.value (.pointer (some ⟨w.heap.size,0,none⟩))) ((wt w tp).alloc (.cells z.cells tid)):=by
  unfold execOp
  rw [hop]
  simp [Instr.alloc,hzr,newVar,newRow]
  rfl
 obtain ⟨es,hst⟩:=ku (b:=b) (k:=k) (cs:=cs) (rest:=rest) ho hw (fun c=>by rw [hop];simp) hr (.inl rfl)
 refine ⟨_,_,_,es,hst,trivial,hcs,fun hcl=>mZ (fun x hx=>ru hzf x (by simpa using hx)) (Ren.aX hcl rfl),fun c o1 h1 h2 o2 h3=>?_,hk _ rfl⟩
 have hlt:=(Array.getElem?_eq_some_iff.1 h1).1
 have h4:(w.heap.push (.cells z.cells tid))[c]? = some o2:=h3
 rw [Array.getElem?_push,if_neg (by omega),h1] at h4
 rw [←Option.some.inj h4];exact h2
theorem kH.store1 (hK:kH P L N K) {ops:Array Oper} {i:Nat} {rest:List Nat} {o:Oper} {b:Frame} {a:Act} {k:List Item} {cs:List Frame} {w:World} {tid el:TypeId} {x y:Operand} {ti:TypeInfo} {c:Nat} {u0 u:Value} (hcs:qM cs) (ho:ops[i]? = some o) (hw:Region.wanted o (yielded ops a.tmps)=true) (hop:o.op = .store tid x y) (hb:gB P L o=true)
  (hi:P.info? tid=some ti) (hs:ti.size=1) (hx:a.eval x = .pointer (some ⟨c,0,none⟩)) (hy:a.eval y=u) (hu:single u=true) (huc:dA (· ∈ L) u) (hc:w.heap[c]? = some (.cells #[u0] el (0,0))) (hd:o.dst=none)
  (hk:∀ w':World,w'.heap=w.heap.setIfInBounds c (.cells #[u] el (0,0))→K (b.atR a (.inRegion ops rest::k)) cs w'):K (b.atR a (.inRegion ops (i::rest)::k)) cs w:=by
 refine hK.own (jb ho (by rw [hop];rfl) hb) fun tp=>?_
 have hlt:=(Array.getElem?_eq_some_iff.1 hc).1
 have hcells:u.cells=#[u]:=by cases u<;>first | rfl | (cases hu;done)
 have hc':(wt w tp).heap[c]? = some (.cells #[u0] el (0,0)):=hc
 have hcell:(wt w tp).cell? ⟨c,0,none⟩=some u0:=by simp [World.cell?,hc']
 have hfz:(wt w tp).frozen? ⟨c,0,none⟩=false:=by simp [World.frozen?,hc']
 have hadd:(⟨c,0,none⟩:Addr).add 0=⟨c,0,none⟩:=by simp [Addr.add]
 have hst0:(store ⟨c,0,none⟩ u).run P (wt w tp) = .ok () ((wt w tp).setCell ⟨c,0,none⟩ u):=by
  unfold store
  cases u with
  | agg _=>cases hu
  | tuple _=>cases hu
  | _=>simp [Sem.run,hcell,hfz]
 have hr:(execOp a.eval o).run P (wt w tp) = .ok .skip ((wt w tp).setCell ⟨c,0,none⟩ u):=by
  unfold execOp
  rw [hop]
  simp [Instr.storeAt,Instr.sureAddr,hx,hy,storeVar,Go.sizeOf,typeInfo,hi,hs,hcells,storeCells,hadd,hst0]
 have hheap:((wt w tp).setCell ⟨c,0,none⟩ u).heap=w.heap.setIfInBounds c (.cells #[u] el (0,0)):=by
  apply Array.ext_getElem?
  intro j
  rw [bT]
  by_cases hj:j=c
  ·subst hj
   rw [if_pos rfl,hc',Array.getElem?_setIfInBounds_self_of_lt hlt]
   simp
  ·rw [if_neg hj,Array.getElem?_setIfInBounds_ne (Ne.symm hj)];rfl
 obtain ⟨es,hst⟩:=ku (b:=b) (k:=k) (cs:=cs) (rest:=rest) ho hw (fun c=>by rw [hop];simp) hr (.inr ⟨rfl,rfl⟩)
 rw [hd] at hst
 refine ⟨_,_,_,es,hst,trivial,hcs,fun hcl=>?_,fun d o1 h1 h2 o2 h3=>?_,hk _ hheap⟩
 ·exact rO (Ren.aX hcl rfl) huc
 ·have h4:((wt w tp).setCell ⟨c,0,none⟩ u).heap[d]? = some o2:=h3
  rw [hheap] at h4
  by_cases hj:d=c
  ·subst hj
   rw [hc] at h1
   cases h1;cases h2
  ·rw [Array.getElem?_setIfInBounds_ne (Ne.symm hj),h1] at h4
   rw [←Option.some.inj h4];exact h2
theorem kH.func (hK:kH P L N K) {ops:Array Oper} {i:Nat} {rest:List Nat} {o:Oper} {b:Frame} {a:Act} {k:List Item} {cs:List Frame} {w:World} {fn:FuncId} {xs ys:Array Operand} (hbk:b.kind = .normal) (hbr:b.roundOf=none) (ho:ops[i]? = some o) (hw:Region.wanted o (yielded ops a.tmps)=true)
  (hop:o.op = .makeFunc (.func fn) xs ys) (hfn:fn∈L∨fn∈N) (hxs:∀ x∈xs,bG P (@Ren.Nm (aK P L N) (· ∈ L)) x) (hys:∀ x∈ys,bG P (@Ren.Nm (aK P L N) (· ∈ L)) x)
  (hk:K (b.atR (a.put o.dst (.func (.func fn) (xs.map a.eval) (ys.map a.eval))) (.inRegion ops rest::k)) cs w):K (b.atR a (.inRegion ops (i::rest)::k)) cs w:=by
 have hev:(b.atR a (.inRegion ops (i::rest)::k)).eval=a.eval:=Frame.eval_atR b a _
 have hfin:(b.atR a (.inRegion ops (i::rest)::k)).finish (.func (.func fn) (xs.map a.eval) (ys.map a.eval))=b.atR (a.put o.dst (.func (.func fn) (xs.map a.eval) (ys.map a.eval))) (.inRegion ops rest::k):=by
  have:=Frame.finish_atR b a ops i rest k (.func (.func fn) (xs.map a.eval) (ys.map a.eval))
  rw [ho] at this
  simpa using this
 refine hK _ _ _ (@iG.put (aK P L N) P (· ∈ L) _ (b.atR a (.inRegion ops (i::rest)::k)) cs (.func (.func fn) (xs.map a.eval) (ys.map a.eval)) w (fun hokk=>?_) (fun hokk f m cs' w1 hx=>?_) ?_)
 ·have:=@Ox (aK P L N) P (· ∈ L) _ cs w hokk fn hfn xs ys hxs hys
  rw [hev] at this
  exact this
 ·have:=@XT (aK P L N) P (· ∈ L) (b.atR a (.inRegion ops (i::rest)::k)) ops i rest k o fn xs ys rfl hbr (by show b.kind ≠ .early;rw [hbk];intro h;cases h) rfl (@ai.items (aK P L N) _ _ _ (@Tq.frame (aK P L N) _ _ _ (@Ok.uy (aK P L N) _ _ _ _ hokk))) ho hw hop hxs hys f m cs' w1 hx
  rw [hev] at this
  exact this
 ·rw [hfin]
  exact @iG.done (aK P L N) _ _ _ _ _ ⟨_,_,rfl,hk,.of rfl⟩
end Ev
end Go
end
end
section
section
namespace Go
namespace Crew
open Go.Conc Go.ConcN Go.Ren Go.Conc.Lib Go.ConcR.Gen Go.ConcN.Gen
structure DF where
 wc:FuncId
 fn:Func
 j0:Nat
 j1:Nat
 j2:Nat
 o0:Oper
 so:Oper
 iI:Array Oper
 ops2:Array Oper
 l2:List Oper
 cnd:Operand
 x0:Operand
 ch:Operand
 x:Operand
 VV:Array TypeId
 i5:Nat
 i6:Nat
 i7:Nat
 i8:Nat
 i9:Nat
 i10:Nat
 ry:Nat
 lM:Nat
 ops5:Array Oper
 ops9:Array Oper
 Xw:Oper
 Tj:Oper
 Ti:Oper
 o7:Oper
 Om:Oper
 Ol:Oper
 Hf:Oper
 c5:Operand
 tid:TypeId
 ti:TypeInfo
 z0:Value
 u0:Value
 d8:Nat
 d22:Nat
 d23:Nat
 y6:Operand
 xA:Operand
 xW:Operand
 caps:Array Operand
 ats7:Array TypeId
 ats8:Array TypeId
 VU:Array TypeId
def DF.D6 (c:DF):Code:=.seq (.region c.j0 #[c.o0] false) (.seq (.region c.j1 c.iI false) (.cond c.cnd (.region c.j2 c.ops2 false) .skip))
def DF.loopBody (c:DF):Code:=.seq (.region c.i5 c.ops5 false) (.seq (.cond c.c5 .skip (.exit c.ry)) (.seq (.block c.lM (.seq (.region c.i6 #[c.Xw,c.Tj,c.Ti] false) (.seq (.region c.i7 #[c.o7] false) (.region c.i8 #[c.Om,c.Ol] false)))) (.region c.i9 c.ops9 false)))
structure DF.OK (P:Program) (L N:List FuncId) (Lk:WgLink) (c:DF):Prop where
 fw:P.funcs[c.wc]? = some c.fn
 bw:c.fn.body=some c.D6
 rw_:c.fn.results=#[]
 nw:(c.fn.name == "runtime.NumGoroutine")=false
 cw:jF P L c.D6=true
 o0op:c.o0.op = .defer { callee:=.value (.func Lk.done),args:=#[c.x0],argTypes:=c.VV }
 o0g:c.o0.guard=none
 o0d:c.o0.dst=none
 x0ok:jR P (L++N) c.x0=true
 l2eq:c.ops2.toList=c.l2++[c.so]
 sop:c.so.op = .send c.ch c.x
 sg:c.so.guard=none
 Yf:jR P (L++N) c.ch=true
 xok:jR P (L++N) c.x=true
 wN:c.wc∈N
 aop:c.Tj.op = .alloc c.tid
 ag:c.Tj.guard=none
 ad:c.Tj.dst=some c.d8
 ab:gB P L c.Tj=true
 tinfo:P.info? c.tid=some c.ti
 tsize:c.ti.size=1
 tz:Ev.zeroOf P c.tid=some c.z0
 tz1:c.z0.cells=#[c.u0]
 s6op:c.Ti.op = .store c.tid (.tmp c.d8) c.y6
 s6g:c.Ti.guard=none
 s6d:c.Ti.dst=none
 s6b:gB P L c.Ti=true
 aop7:c.o7.op = .call { callee:=.value (.func Lk.add),args:=#[c.xA,.const (.int .i64 1)],argTypes:=c.ats7 }
 ag7:c.o7.guard=none
 ad7:c.o7.dst=some c.d22
 xAok:jR P (L++N) c.xA=true
 f8op:c.Om.op = .makeFunc (.func c.wc) #[] c.caps
 f8g:c.Om.guard=none
 f8d:c.Om.dst=some c.d23
 capsok:∀ x∈c.caps,jR P (L++N) x=true
 g8op:c.Ol.op = .go { callee:=.value (.tmp c.d23),args:=#[],argTypes:=c.ats8 }
 g8g:c.Ol.guard=none
 g8d:c.Ol.dst=none
 w10op:c.Hf.op = .call { callee:=.value (.func Lk.wait),args:=#[c.xW],argTypes:=c.VU }
 w10g:c.Hf.guard=none
 xWok:jR P (L++N) c.xW=true
 h8:c.d8<Ev.top
 h22:c.d22<Ev.top
 h23:c.d23<Ev.top
 h8n:c.d8≠c.d22
 h8m:c.d8≠c.d23
section
variable (P:Program) (L N:List FuncId) (inv:Ev.Iv) (c:DF) (n nW nC hi:Nat) (hS:Ev.H)
def DF.nX (t:Ev.T Value):Option (Option Value × Ev.T Value):=
 match Ev.jU P L n c.ops5.toList c.ops5.toList t with
 | some t1=>match Ev.aG t1 c.c5 with
  | some (.bool true)=>match Ev.jU P L n [c.Xw,c.Tj,c.Ti] [c.Xw] t1 with
   | some t2=>match Ev.aG (Ev.strike t2 c.d8) c.y6,Ev.aG (Ev.strike t2 c.d8) c.xA with
    | some (.int kd z),some (.pointer (some ⟨w,0,none⟩))=>match Nat.beq w nW,hS.new (.cells [.int kd z] c.tid none) with
     | true,some (nb,hC)=>match Ev.opts (Ev.aG (Ev.T.put Ev.T.deep (Ev.strike (Ev.strike t2 c.d8) c.d22) c.d8 (some (.pointer (some ⟨nb,0,none⟩))))) c.caps.toList with
      | some args=>match PH P L N inv (args.length+(c.fn.ntmps - args.length)) c.x0 c.iI.toList c.cnd c.ops2.toList c.l2 c.ch c.x nW nC hi args hC with
       | some pay=>match Ev.jU P L n c.ops9.toList c.ops9.toList (Ev.strike (Ev.strike (Ev.strike t2 c.d8) c.d22) c.d23) with
        | some t6=>some (pay,t6)
        | none=>none
       | none=>none
      | none=>none
     | _,_=>none
    | _,_=>none
   | none=>none
  | _=>none
 | none=>none
def DF.xI:Nat→Ev.T Value→Option (List (Option Value) × Ev.T Value)
 | 0,t=>match Ev.jU P L n c.ops5.toList c.ops5.toList t with
  | some t1=>match Ev.aG t1 c.c5,Ev.aG t1 c.xW with
   | some (.bool false),some (.pointer (some ⟨w,0,none⟩))=>match Nat.beq w nW with
    | true=>some ([],t1)
    | false=>none
   | _,_=>none
  | none=>none
 | r+1,t=>match c.nX P L N inv n nW nC hi hS t with
  | some (pay,t')=>match DF.xI r t' with
   | some (ps,tE)=>some (pay::ps,tE)
   | none=>none
  | none=>none
end
structure Rows (vz:World) (g:Nat) (v:World):Prop where
 size:v.heap.size=vz.heap.size+g
 old:∀ x,x<vz.heap.size→v.heap[x]? = vz.heap[x]?
 new:∀ x o,vz.heap.size≤x→v.heap[x]? = some o→isCells o=true
theorem Rows.same {vz v v':World} {g:Nat} (h:Rows vz g v) (e:v'.heap=v.heap):Rows vz g v':=⟨by rw [e];exact h.size,fun x hx=>by rw [e];exact h.old x hx,fun x o hx ho=>h.new x o hx (by rw [←e];exact ho)⟩
theorem Rows.YC {vz v:World} {g:Nat} (h:Rows vz g v) (hz:Ev.gJ vz):Ev.gJ v:=fun x o hx=>by
 rcases Nat.lt_or_ge x vz.heap.size with hlt | hge
 ·exact hz x o (by rw [←h.old x hlt];exact hx)
 ·have:=h.new x o hge hx
  cases o<;>first | rfl | (cases this;done)
theorem Rows.hr {vz v:World} {g:Nat} (h:Rows vz g v) {ρ:Ev.aY} {hS:Ev.H} (hr:Ev.HR ρ hS vz):Ev.HR ρ hS v:=hr.Uz (h.YC hr.dH) fun b o x k o' _ _ ho _=>by rw [h.old x (Array.getElem?_eq_some_iff.1 ho).1];exact ho
end Crew
end Go
end
end
