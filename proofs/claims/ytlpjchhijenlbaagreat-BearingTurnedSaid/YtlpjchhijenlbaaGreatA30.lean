/- Of the proof of BearingTurned: Wk22 Wk23 Wk24 Wk25 Wk26 Wk27 Wk28 Wk29 Wk30 Wk31 Wk32 -/
import Derived.Test.YtlpjchhijenlbaaGreatA29
import Derived.Test.YtlpjchhijenlbaaGreatA09
set_option linter.unusedSectionVars false
set_option linter.unusedVariables false
set_option linter.unusedSimpArgs false
section
section
namespace Go
namespace Crew
open Go.Conc Go.ConcN Go.Ren Go.Conc.Lib Go.ConcR.Gen Go.ConcN.Gen
section
theorem Lu [gm] {S:FuncId→Prop} {n:Nat} {f:Fn} {pre caps:Array Value} (h:∀ (H H':Fr) (h h':Nat→Nat),Ren.Alike (Nm S) n H H' h h'→@val H h (.func f pre caps) = @val H' h' (.func f pre caps)):ni S n (pre++caps):=fun H H' h1 h2 ha=>by
 have:=h H H' h1 h2 ha
 rw [nU,nU] at this
 injection this with e1 e2 e3
 rw [vY,vY]
 unfold vals
 rw [e2,e3]
end
section
variable [au] {P:Program} {L N:List FuncId} {Lk:WgLink} {Wg Ch:Nat} {Ro:Nat→Prop} {c:DF} {inv:Ev.Iv}
theorem xR {x:Operand} (h:jR P (L++N) x=true):bG P (@Ren.Nm (aK P L N) (· ∈ L)) x:=Ev.sZ h
theorem DF.child (hz:aN P) (hSk:kU P (· ∈ L)) (H:WgLib P Lk) (hCW:Ch≠Wg) (hRW:¬ Ro Wg) (hN:Ev.lQ inv) (hI:∀ f args h v h',inv (.func f) args h=some (v,h')→Ev.aV P f args h v h') (hc:c.OK P L N Lk)
  {ρ:Ev.aY} {hS hC:Ev.H} {vz v:World} {g n0:Nat} {f0:Nat→Nat} (hr:Ev.HR ρ hS vz) (hsh:∀ b o,hS.get b=some o→∃ d t,o = .shut d t) (hlean:∀ x o,vz.heap[x]? = some o→lI o=true∨Ro (f0 x)∨(o.isChan=true∧au.ch (f0 x))) (hn0:n0=vz.heap.size)
  {nW bW kW nC bC kC hi nb:Nat} (hW:ρ nW = .at_ bW kW) (hbW:bW<n0) (hfW:f0 bW=Wg) (hCc:ρ nC = .at_ bC kC) (hbC:bC<n0) (hfC:f0 bC=Ch) (hnC:hS.get nC=none) (hnC2:nC<hS.next) (hnW2:nW<hS.next) (hu:Ev.gK ρ hS.next hi)
  {kd:IntKind} {z:Int} (hnew:hS.new (.cells [.int kd z] c.tid none)=some (nb,hC)) (hhi:hC.next≤hi) (hR:Rows vz (g+1) v) (hbox:v.heap[n0+g]? = some (.cells #[.int kd z] c.tid (0,0)))
  {args:List Value} {pay:Option Value} (e:PH P L N inv (args.length+(c.fn.ntmps - args.length)) c.x0 c.iI.toList c.cnd c.ops2.toList c.l2 c.ch c.x nW nC hi args hC=some pay)
  {fr:Frame} {cs:List Frame} {caps:Array Value} (hcap:fr.tmps.getD c.d23 undef = .func (.func c.wc) #[] caps) (hva:Ev.eQ (Ev.upd ρ nb (.at_ (n0+g) 0)) args caps.toList)
  {f:Nat→Nat} {w:World} {own:Nat→Prop} (hp:@di (aK P L N) P (· ∈ L) Ro own au.ch f (Conc.G fr cs) v w) (hRo:∀ b,Ro b→b<w.heap.size∧¬ own b) (hag:∀ i,i<n0→f i=f0 i) (hoW:¬ own Wg) (hoC:¬ own Ch) (hH:GG own w) :
  aC P Ro (Live Lk.tWg Wg Ch) false (kN (zi P Lk.tWg Wg Ch Ro pay)) ⟨Conc.born P (deferred f { target:=.fn (.func c.wc) caps,args:=#[] }),w,given own f (fun b=>b=n0+g)⟩:=by
 obtain ⟨q1,q2,q3,q4⟩:=Ev.H.jh hnew
 have hup:ρ nb = .aT:=hu nb (by omega) (by omega)
 have hcl:∀ b x,¬ (b=n0+g)→own (f b)→v.heap[b]? = some x→isCells x=true:=fun b x hb ho hx=>by
  rcases Nat.lt_or_ge b vz.heap.size with hlt | hge
  ·rw [hR.old b hlt] at hx
   rcases hlean b x hx with h1 | h1 | ⟨_,h1⟩
   ·cases x<;>first | rfl | (cases h1;done)
   ·rw [←hag b (by omega)] at h1;exact absurd ho (hRo _ h1).2
   ·rw [←hag b (by omega)] at h1;exact absurd ho (hH _ h1).2
  ·exact hR.new b x hge hx
 have hgood:@ai (aK P L N) P (· ∈ L) (Frame.enter P c.wc #[] .normal):=by
  refine @ai.mk (aK P L N) P (· ∈ L) (Frame.enter P c.wc #[] .normal) (fun it hit=>?_) (fun d hd=>(by simp [Frame.enter] at hd)) trivial (.inl rfl)
  have:it = .code c.D6:=by
   simp only [Frame.enter,hc.fw] at hit
   simpa [hc.bw] using hit
  subst this
  exact @BZ P L N _ hc.cw
 have hnamed:@ni (aK P L N) (· ∈ L) v.heap.size (#[]++caps):=by
  refine @Lu (aK P L N) (· ∈ L) _ (.func c.wc) #[] caps fun H H' h h' ha=>?_
  have:=@Fj P (· ∈ L) (aK P L N) fr cs v (@di.ok (aK P L N) _ _ _ _ _ _ _ _ _ hp) (.tmp c.d23) trivial H H' h h' ha
  rw [show fr.eval (.tmp c.d23) = .func (.func c.wc) #[] caps from hcap] at this
  exact this
 refine @KW.birth (aK P L N) _ P (· ∈ L) Lk.tWg Wg Ch Ro own f fr cs v w hp hRo hoW hoC c.wc c.fn #[] caps (fun b=>b=n0+g) (kN (zi P Lk.tWg Wg Ch Ro pay)) rfl hc.fw hc.nw (by rw [hc.bw];rfl) hgood hnamed hcl ?_
 have hsz:=hR.size
 have hrv:Ev.HR ρ hS v:=hR.hr hr
 have hpar:∀ b,b≠nb→Ev.upd ρ nb (.at_ (n0+g) 0) b=ρ b:=fun b hb=>Ev.aJ _ _ hb
 have hle:Ev.Le ρ (Ev.upd ρ nb (.at_ (n0+g) 0)):=Ev.mP hup _
 have hrc:Ev.HR (Ev.upd ρ nb (.at_ (n0+g) 0)) hC v:=by
  refine ⟨hrv.dH,fun b o hb=>?_,fun b d x k l hb hd hx hy=>?_⟩
  ·rw [q4] at hb
   split at hb
   ·rename_i eb
    cases hb;subst eb
    exact ⟨n0+g,0,_,Ev.upd_same _ _ _,hbox,[.int kd z],[],rfl,.cons (.same rfl) .nil,fun _=>rfl,fun z hz=>by cases hz⟩
   ·rename_i eb
    obtain ⟨x,k,o',h1,h2,h3⟩:=hrv.ob b o hb
    exact ⟨x,k,o',by rw [hpar b eb];exact h1,h2,h3.mono hle⟩
  ·have low:∀ b x k,b≠nb→(hC.get b).isSome=true→Ev.upd ρ nb (.at_ (n0+g) 0) b = .at_ x k→x<vz.heap.size∧(hS.get b).isSome=true∧ρ b = .at_ x k:=fun b x k hb hs hx=>by
    rw [q4,if_neg hb] at hs
    rw [hpar b hb] at hx
    obtain ⟨o,ho⟩:=Option.isSome_iff_exists.1 hs
    exact ⟨hr.lt ho hx,hs,hx⟩
   by_cases e1:b=nb<;>by_cases e2:d=nb
   ·rw [e1,e2]
   ·subst e1
    rw [Ev.upd_same] at hx
    cases hx
    have:=(low d _ _ e2 hd hy).1
    omega
   ·subst e2
    rw [Ev.upd_same] at hy
    cases hy
    have:=(low b _ _ e1 hb hx).1
    omega
   ·obtain ⟨_,h1,h2⟩:=low b _ _ e1 hb hx
    obtain ⟨_,h3,h4⟩:=low d _ _ e2 hd hy
    exact hr.inj b d x k l h1 h3 h2 h4
 have hrh:Ev.HR (Ev.upd ρ nb (.at_ (n0+g) 0)) hC (iR (fun b=>¬ (b=n0+g)∧own (f b)) v):=by
  refine hrc.hide fun b x k o hb hx ho=>?_
  rw [q4] at hb
  split at hb
  ·rename_i eb
   subst eb
   rw [Ev.upd_same] at hx
   cases hx
   exact .inl fun h=>h.1 rfl
  ·rename_i eb
   rw [hpar b eb] at hx
   obtain ⟨ob,hob⟩:=Option.isSome_iff_exists.1 hb
   obtain ⟨d,t,rfl⟩:=hsh b ob hob
   have hlt:=hr.lt hob hx
   rw [hR.old x hlt] at ho
   rcases hlean x o ho with h1 | h1 | ⟨h1,_⟩
   ·exact .inr ⟨h1,d,t,by rw [q4,if_neg eb];exact hob⟩
   ·refine .inl fun h=>(hRo _ h1).2 ?_
    rw [←hag x (by omega)];exact h.2
   ·obtain ⟨y,k2,o',h2,h3,h4⟩:=hr.ob b _ hob
    rw [hx] at h2
    cases h2
    rw [ho] at h3
    cases h3
    obtain ⟨_,_,_,rfl,_⟩:=h4
    cases h1
 have hcaps:Frame.enter P c.wc (#[]++caps) .deferred=Frame.enter P c.wc ⟨caps.toList⟩ .deferred:=by simp
 rw [hcaps]
 have hneW:nW≠nb:=by omega
 have hneC:nC≠nb:=by omega
 exact KW.worker (n0:=v.heap.size) (f0:=f) (w0:=w) hz hSk H hCW hRW hN hI hc.fw hc.bw hc.rw_ hc.o0op hc.o0g hc.o0d (xR hc.x0ok) hc.l2eq hc.sop hc.sg (xR hc.Yf) (xR hc.xok) e hva hrh
  (fun b h1 h2=>by rw [hpar b (by omega)];exact hu b (by omega) h2) hhi (by rw [hpar nW hneW];exact hW) (by omega) (by rw [hag bW hbW];exact hfW) (by rw [hpar nC hneC];exact hCc) (by omega) (by rw [hag bC hbC];exact hfC)
  (by rw [q4,if_neg hneC];exact hnC) (by omega)
end
end Crew
end Go
end
end
section
section
namespace Go
namespace Crew
open Go.Conc Go.ConcN Go.Ren Go.Conc.Lib Go.ConcR.Gen Go.ConcN.Gen
section
variable {P:Program} {L N:List FuncId} {K:Frame→List Frame→World→Prop}
theorem ny (hK:Ev.kH P L N K) {b:Frame} {a:Act} {x:Item} {k k':List Item} {cs:List Frame} {v:World} (hx:Ev.Ou x=true) (hcs:Ev.qM cs) (h:∀ w:World,stepG P true (Conc.G (b.atR a (x::k)) cs) w = .go (Conc.G (b.atR a k') cs) w #[]) (hk:∀ v',v'.heap=v.heap→K (b.atR a k') cs v') :
  K (b.atR a (x::k)) cs v:=hK.item hx hcs (fun w=>⟨#[],h w⟩) fun t=>hk _ rfl
theorem lg (hK:Ev.kH P L N K) {b:Frame} {a:Act} {ops:Array Oper} {k:List Item} {cs:List Frame} {v:World} (hcs:Ev.qM cs) (hk:∀ v',v'.heap=v.heap→K (b.atR a k) cs v'):K (b.atR a (.inRegion ops []::k)) cs v:=
 hK.item rfl hcs Ev.nJ fun t=>hk _ rfl
theorem zx (hK:Ev.kH P L N K) {b:Frame} {a:Act} {c:Operand} {c1 c2:Code} {k:List Item} {cs:List Frame} {v:World} (hcs:Ev.qM cs) {q:Bool} (hq:a.eval c = .bool q) (hk:∀ v',v'.heap=v.heap→K (b.atR a (.code (if q then c1 else c2)::k)) cs v'):K (b.atR a (.code (.cond c c1 c2)::k)) cs v:=by
 refine ny hK (k':=.code (if q then c1 else c2)::k) rfl hcs (fun w=>?_) hk
 have:=congrFun (Frame.eval_atR b a (.code (.cond c c1 c2)::k)) c
 simp only [Frame.atR] at this
 unfold Conc.G
 cases q<;>simp [stepG,stepG.exec,Frame.atR,this,hq]
theorem dW (hK:Ev.kH P L N K) {b:Frame} {a:Act} {c1 c2:Code} {k:List Item} {cs:List Frame} {v:World} (hcs:Ev.qM cs) (hk:∀ v',v'.heap=v.heap→K (b.atR a (.code c1 :: .code c2::k)) cs v'):K (b.atR a (.code (.seq c1 c2)::k)) cs v:=
 ny hK rfl hcs (fun w=>by unfold Conc.G;simp [stepG,stepG.exec,Frame.atR]) hk
theorem Kr (hK:Ev.kH P L N K) {b:Frame} {a:Act} {k:List Item} {cs:List Frame} {v:World} (hcs:Ev.qM cs) (hk:∀ v',v'.heap=v.heap→K (b.atR a k) cs v'):K (b.atR a (.code .skip::k)) cs v:=
 ny hK rfl hcs (fun w=>by unfold Conc.G;simp [stepG,stepG.exec,Frame.atR]) hk
theorem xE (hK:Ev.kH P L N K) {b:Frame} {a:Act} {id:Nat} {c:Code} {k:List Item} {cs:List Frame} {v:World} (hcs:Ev.qM cs) (hk:∀ v',v'.heap=v.heap→K (b.atR a (.code c :: .inBlock id::k)) cs v'):K (b.atR a (.code (.block id c)::k)) cs v:=
 ny hK rfl hcs (fun w=>by unfold Conc.G;simp [stepG,stepG.exec,Frame.atR]) hk
theorem Cf (hK:Ev.kH P L N K) {b:Frame} {a:Act} {id:Nat} {k:List Item} {cs:List Frame} {v:World} (hcs:Ev.qM cs) (hk:∀ v',v'.heap=v.heap→K (b.atR a k) cs v'):K (b.atR a (.inBlock id::k)) cs v:=
 ny hK rfl hcs (fun w=>by unfold Conc.G;simp [stepG,stepG.exec,Frame.atR]) hk
theorem Kt (hK:Ev.kH P L N K) {b:Frame} {a:Act} {c:Code} {k:List Item} {cs:List Frame} {v:World} (hcs:Ev.qM cs) (hk:∀ v',v'.heap=v.heap→K (b.atR a (.code c :: .inLoop c::k)) cs v'):K (b.atR a (.code (.loop c)::k)) cs v:=
 ny hK rfl hcs (fun w=>by unfold Conc.G;simp [stepG,stepG.exec,Frame.atR]) hk
theorem Ea (hK:Ev.kH P L N K) {b:Frame} {a:Act} {c:Code} {k:List Item} {cs:List Frame} {v:World} (hcs:Ev.qM cs) (hk:∀ v',v'.heap=v.heap→K (b.atR a (.code c :: .inLoop c::k)) cs v'):K (b.atR a (.inLoop c::k)) cs v:=
 ny hK rfl hcs (fun w=>by unfold Conc.G;simp [stepG,stepG.exec,Frame.atR]) hk
theorem gp (hK:Ev.kH P L N K) {b:Frame} {a:Act} {id:Nat} {ops:Array Oper} {k:List Item} {cs:List Frame} {v:World} (hcs:Ev.qM cs) (hk:∀ v',v'.heap=v.heap→K (b.atR a (.inRegion ops (List.range ops.size)::k)) cs v'):K (b.atR a (.code (.region id ops false)::k)) cs v:=
 ny hK rfl hcs (fun w=>by unfold Conc.G;simp [stepG,stepG.exec,Frame.atR]) hk
theorem Ku (hK:Ev.kH P L N K) {b:Frame} {a:Act} {id:Nat} {k k':List Item} {cs:List Frame} {v:World} (hcs:Ev.qM cs) (he:exitTo id k=some k') (hk:∀ v',v'.heap=v.heap→K (b.atR a k') cs v'):K (b.atR a (.code (.exit id)::k)) cs v:=
 ny hK rfl hcs (fun w=>by unfold Conc.G;simp [stepG,stepG.exec,Frame.atR,he]) hk
theorem Bf (hK:Ev.kH P L N K) {ρ:Ev.aY} {n id:Nat} {ops:Array Oper} {b:Frame} {k:List Item} {cs:List Frame} (hcs:Ev.qM cs) {t t':Ev.T Value} (e:Ev.jU P L n ops.toList ops.toList t=some t') {a:Act} {v:World} (ht:Ev.TR ρ n t a.tmps)
  (hk:∀ a' v',a'.defers=a.defers→v'.heap=v.heap→Ev.TR ρ n t' a'.tmps→K (b.atR a' k) cs v'):K (b.atR a (.code (.region id ops false)::k)) cs v:=by
 refine ny hK (k':=.inRegion ops (List.range ops.size)::k) rfl hcs (fun w=>by unfold Conc.G;simp [stepG,stepG.exec,Frame.atR]) fun v1 h1=>?_
 have hrng:List.range ops.size=List.range' 0 ops.toList.length++[]:=by rw [List.append_nil,List.range_eq_range'];simp
 rw [hrng]
 refine hK.Us (rest:=[]) hcs (l:=ops.toList) (i:=0) (fun j _=>by simp) e ht fun a' v' d1 d2 d3=>?_
 exact lg hK hcs fun v'' d4=>hk a' v'' d1 (by rw [d4,d2,h1]) d3
end
section
variable [au] {P:Program} {L N:List FuncId} {Lk:WgLink} {Wg Ch:Nat} {Ro:Nat→Prop} {c:DF} {inv:Ev.Iv} {pay:Nat→Option Value} {w0:World}
theorem DL {Stop:Stops}:∀ e r,au.ch r→rQ r e→(kM Wg Stop).X e:=fun _ r h1 h2=>.inr ⟨r,h1,h2⟩
set_option maxHeartbeats 1000000 in
theorem DF.starts (hz:aN P) (hSk:kU P (· ∈ L)) (H:WgLib P Lk) (hCW:Ch≠Wg) (hRW:¬ Ro Wg) (hN:Ev.lQ inv) (hI:∀ f args h v h',inv (.func f) args h=some (v,h')→Ev.aV P f args h v h') (hc:c.OK P L N Lk)
  {ρ:Ev.aY} {hS:Ev.H} {vz:World} {n0:Nat} {f0:Nat→Nat} (hr:Ev.HR ρ hS vz) (hsh:∀ b o,hS.get b=some o→∃ d t,o = .shut d t) (hlean:∀ x o,vz.heap[x]? = some o→lI o=true∨Ro (f0 x)∨(o.isChan=true∧au.ch (f0 x))) (hn0:n0=vz.heap.size)
  {nW bW kW nC bC kC hi n nT:Nat} (hn8:c.d8<n) (hn23:c.d23<n) (hW:ρ nW = .at_ bW kW) (hbW:bW<n0) (hfW:f0 bW=Wg) (hCc:ρ nC = .at_ bC kC) (hbC:bC<n0) (hfC:f0 bC=Ch) (hnC:hS.get nC=none) (hnC2:nC<hS.next) (hnW2:nW<hS.next) (hu:Ev.gK ρ hS.next hi) (hhi:hS.next+1≤hi)
  {b:Frame} (hbk:b.kind = .normal) (hbr:b.roundOf=none) {rest:Code} {k0:List Item} {cs:List Frame} (hcs:Ev.qM cs) {End:Goroutine→World→Prop} :
  ∀ (r:Nat) (ps:List (Option Value)) (t tE:Ev.T Value),c.xI P L N inv n nW nC hi hS r t=some (ps,tE)→∀ (g:Nat) (a:Act) (v:World),Rows vz g v→Ev.TR ρ n t a.tmps→(∀ j,j<r→pay (nT - (r - j))=(ps[j]?).getD none) →
   (∀ a' v',a'.defers=a.defers→Rows vz (g+r) v'→Ev.TR ρ n tE a'.tmps→End (Conc.G ((b.atR a' (.inRegion #[c.Hf] [0] :: .code rest::k0)).finish (.tuple #[])) cs) v') →
   @KO (aK P L N) _ P (· ∈ L) Lk.tWg Wg Ch Ro (kO P Lk.tWg Wg Ch Ro (yI P Lk.tWg Wg Ch Ro nT (@Head (aK P L N) P (· ∈ L) Lk Ro au.ch Wg Ch w0 n0 f0 End) pay r)) n0 f0 w0 (b.atR a (.code c.loopBody :: .inLoop c.loopBody :: .inBlock c.ry :: .code (.seq (.region c.i10 #[c.Hf] false) rest)::k0)) cs v:=by
 intro r
 induction r with
 | zero=>
  intro ps t tE e g a v hR ht _ hEnd
  have hK:=@JB _ P L N hz hSk Lk.tWg Wg Ch Ro (kO P Lk.tWg Wg Ch Ro (yI P Lk.tWg Wg Ch Ro nT (@Head (aK P L N) P (· ∈ L) Lk Ro au.ch Wg Ch w0 n0 f0 End) pay 0)) n0 f0 w0 rfl DL
  simp only [DF.xI] at e
  split at e
  case h_2=>cases e
  rename_i t1 e1
  split at e
  case h_2=>cases e
  rename_i w' ec ew
  split at e
  case h_2=>cases e
  rename_i hw
  obtain rfl:=Nat.eq_of_beq_eq_true hw
  cases e
  unfold DF.loopBody
  refine dW hK hcs fun v1 h1=>?_
  refine Bf hK hcs e1 ht fun a2 v2 d1 d2 d3=>?_
  refine dW hK hcs fun v3 h3=>?_
  refine zx hK hcs (q:=false) (Ev.dh d3 _ _ ec).dQ fun v4 h4=>?_
  refine Ku hK hcs (k':=.code (.seq (.region c.i10 #[c.Hf] false) rest)::k0) (by simp [exitTo]) fun v5 h5=>?_
  refine dW hK hcs fun v6 h6=>?_
  refine gp hK hcs fun v7 h7=>?_
  have hheap:v7.heap=v.heap:=by rw [h7,h6,h5,h4,h3,d2,h1]
  have hev:(b.atR a2 (.inRegion #[c.Hf] [0] :: .code rest::k0)).eval c.xW = .pointer (some ⟨bW,0,none⟩):=by
   have h8:=Ev.dh d3 _ _ ew
   obtain ⟨a',h9,h10⟩:=h8.iQ
   rw [show (b.atR a2 (.inRegion #[c.Hf] [0] :: .code rest::k0)).eval c.xW=a2.eval c.xW from congrFun (Frame.eval_atR b a2 _) c.xW,h9]
   obtain ⟨ab,ao,as⟩:=a'
   have g1:ab=bW:=h10.block.at_ hW
   have g2:ao=0:=h10.off
   have g3:as=none:=h10.spot'
   rw [g1,g2,g3]
  have hww:Region.wanted c.Hf (yielded #[c.Hf] a2.tmps)=true:=by unfold Region.wanted;rw [hc.w10g]
  exact @KO.wait (aK P L N) _ P (· ∈ L) Lk Ro Wg Ch n0 f0 w0 H hRW v7 (b.atR a2 (.inRegion #[c.Hf] [0] :: .code rest::k0)) cs #[c.Hf] 0 [] (.code rest::k0) c.Hf c.xW bW c.VU End rfl hbr (by show b.kind ≠ .early;rw [hbk];intro h;cases h) rfl rfl hww hc.w10op (xR hc.xWok) hev hbW hfW
   (hEnd a2 v7 d1 (hR.same hheap) d3)
 | succ r ih=>
  intro ps t tE e g a v hR ht hpay hEnd
  have hK:=@JB _ P L N hz hSk Lk.tWg Wg Ch Ro (kO P Lk.tWg Wg Ch Ro (yI P Lk.tWg Wg Ch Ro nT (@Head (aK P L N) P (· ∈ L) Lk Ro au.ch Wg Ch w0 n0 f0 End) pay (r+1))) n0 f0 w0 rfl DL
  simp only [DF.xI] at e
  split at e
  case h_2=>cases e
  rename_i pay1 t6 er
  split at e
  case h_2=>cases e
  rename_i ps2 tE2 e2
  cases e
  unfold DF.nX at er
  split at er
  case h_2=>cases er
  rename_i t1 e1
  split at er
  case h_2=>cases er
  rename_i ec
  split at er
  case h_2=>cases er
  rename_i t2 e3
  split at er
  case h_2=>cases er
  rename_i kd z w' ey ex
  split at er
  case h_2=>cases er
  rename_i nb hCh hw hnew
  obtain rfl:=Nat.eq_of_beq_eq_true hw
  split at er
  case h_2=>cases er
  rename_i args eargs
  split at er
  case h_2=>cases er
  rename_i pay0 ework
  split at er
  case h_2=>cases er
  rename_i t60 e9
  cases er
  have hp0:pay (nT - (r+1))=pay1:=by have:=hpay 0 (by omega);simpa using this
  obtain ⟨q1,q2,q3,q4⟩:=Ev.H.jh hnew
  have hgs:g+1+r=g+(r+1):=by omega
  refine dW hK hcs fun v1 h1=>?_
  refine Bf hK hcs e1 ht fun a2 v2 d1 d2 d3=>?_
  refine dW hK hcs fun v3 h3=>?_
  refine zx hK hcs (q:=true) (Ev.dh d3 _ _ ec).dQ fun v4 h4=>?_
  refine Kr hK hcs fun v5 h5=>?_
  refine dW hK hcs fun v6 h6=>?_
  refine xE hK hcs fun v7 h7=>?_
  refine dW hK hcs fun v8 h8=>?_
  refine gp hK hcs fun v9 h9=>?_
  have hR9:Rows vz g v9:=hR.same (by rw [h9,h8,h7,h6,h5,h4,h3,d2,h1])
  have hrng:List.range (#[c.Xw,c.Tj,c.Ti]:Array Oper).size=List.range' 0 [c.Xw].length++[1,2]:=rfl
  rw [hrng]
  refine hK.Us hcs (l:=[c.Xw]) (i:=0) (rest:=[1,2]) (fun j hj=>by simp at hj;subst hj;rfl) e3 d3 fun a3 v10 p1 p2 p3=>?_
  have hR10:Rows vz g v10:=hR9.same p2
  have hwa:Region.wanted c.Tj (yielded #[c.Xw,c.Tj,c.Ti] a3.tmps)=true:=by unfold Region.wanted;rw [hc.ag]
  refine hK.alloc1 hcs (i:=1) (o:=c.Tj) rfl hwa hc.aop hc.ab hc.tz fun v11 h11=>?_
  rw [hc.ad]
  have hsz10:=hR10.size
  have hv10:v10.heap.size=n0+g:=by omega
  rw [hv10]
  generalize ha4:a3.put (some c.d8) (.pointer (some ⟨n0+g,0,none⟩))=a4
  have p4:Ev.TR ρ n (Ev.strike t2 c.d8) a4.tmps:=by rw [←ha4];exact p3.forget hc.h8 _
  have hd8:a4.tmps[c.d8]? = some (.pointer (some ⟨n0+g,0,none⟩)):=by rw [←ha4];exact Ev.lG a3 (by rw [p3.size];exact hn8) _
  have hy4:a4.eval c.y6 = .int kd z:=(Ev.dh p4 _ _ ey).flat rfl
  have hx4:a4.eval (.tmp c.d8) = .pointer (some ⟨n0+g,0,none⟩):=by
   show a4.tmps.getD c.d8 undef=_
   rw [Array.getD_eq_getD_getElem?,hd8];rfl
  have hws:Region.wanted c.Ti (yielded #[c.Xw,c.Tj,c.Ti] a4.tmps)=true:=by unfold Region.wanted;rw [hc.s6g]
  have hb11:v11.heap[n0+g]? = some (.cells #[c.u0] c.tid (0,0)):=by
   rw [h11,hc.tz1,← hv10];simp
  refine hK.store1 hcs (i:=2) (o:=c.Ti) rfl hws hc.s6op hc.s6b hc.tinfo hc.tsize hx4 hy4 rfl (Gm kd z) hb11 hc.s6d fun v12 h12=>?_
  have hR12:Rows vz (g+1) v12:=by
   refine ⟨by rw [h12,h11];simp;omega,fun x hx=>?_,fun x o hx ho=>?_⟩
   ·rw [h12,Array.getElem?_setIfInBounds_ne (by omega),h11,Array.getElem?_push,if_neg (by omega)]
    exact hR10.old x hx
   ·by_cases hxe:x=n0+g
    ·subst hxe
     rw [h12,Array.getElem?_setIfInBounds_self_of_lt (by rw [h11];simp;omega)] at ho
     cases ho;rfl
    ·rw [h12,Array.getElem?_setIfInBounds_ne (Ne.symm hxe),h11,Array.getElem?_push,if_neg (by omega)] at ho
     exact hR10.new x o hx ho
  have hb12:v12.heap[n0+g]? = some (.cells #[.int kd z] c.tid (0,0)):=by
   rw [h12,Array.getElem?_setIfInBounds_self_of_lt (by rw [h11];simp;omega)]
  refine lg hK hcs fun v13 h13=>?_
  refine dW hK hcs fun v14 h14=>?_
  refine gp hK hcs fun v15 h15=>?_
  have e15:v15.heap=v12.heap:=by rw [h15,h14,h13]
  have hxA:(b.atR a4 (.inRegion #[c.o7] [0] :: .code (.region c.i8 #[c.Om,c.Ol] false) :: .inBlock c.lM :: .code (.region c.i9 c.ops9 false) :: .inLoop c.loopBody :: .inBlock c.ry :: .code (.seq (.region c.i10 #[c.Hf] false) rest)::k0)).eval c.xA = .pointer (some ⟨bW,0,none⟩):=by
   have h8:=Ev.dh p4 _ _ ex
   obtain ⟨a',g4,g5⟩:=h8.iQ
   rw [congrFun (Frame.eval_atR b a4 _) c.xA,g4]
   obtain ⟨ab,ao,as⟩:=a'
   have g1:ab=bW:=g5.block.at_ hW
   have g2:ao=0:=g5.off
   have g3:as=none:=g5.spot'
   rw [g1,g2,g3]
  have hw7:Region.wanted c.o7 (yielded #[c.o7] a4.tmps)=true:=by unfold Region.wanted;rw [hc.ag7]
  refine @KO.add (aK P L N) _ P (· ∈ L) Lk Ro Wg Ch pay H hCW hRW v15 (b.atR a4 (.inRegion #[c.o7] [0] :: .code (.region c.i8 #[c.Om,c.Ol] false) :: .inBlock c.lM :: .code (.region c.i9 c.ops9 false) :: .inLoop c.loopBody :: .inBlock c.ry :: .code (.seq (.region c.i10 #[c.Hf] false) rest)::k0)) cs #[c.o7] 0 (nT - (r+1)) [] _ c.o7 c.xA bW c.ats7 _ n0 f0 w0 rfl hbr (by show b.kind ≠ .early;rw [hbk];intro h;cases h) rfl rfl hw7 hc.aop7 (xR hc.xAok) hxA hbW hfW ?_
  rw [Frame.finish_atR]
  simp only [List.getElem?_toArray,List.getElem?_cons_zero,Option.bind_some,hc.ad7]
  generalize ha5:a4.put (some c.d22) (.tuple #[])=a5
  have p5:Ev.TR ρ n (Ev.strike (Ev.strike t2 c.d8) c.d22) a5.tmps:=by rw [←ha5];exact p4.forget hc.h22 _
  have hd8':a5.tmps[c.d8]? = some (.pointer (some ⟨n0+g,0,none⟩)):=by rw [←ha5,Ev.pq _ hc.h8n];exact hd8
  have hK2:=@JB _ P L N hz hSk Lk.tWg Wg Ch Ro (kO P Lk.tWg Wg Ch Ro (kM Wg (V5 P Lk.tWg Wg Ch Ro pay (nT - (r+1)) (Spawns P Lk.tWg Wg Ch Ro nT (@Head (aK P L N) P (· ∈ L) Lk Ro au.ch Wg Ch w0 n0 f0 End) pay r)))) n0 f0 w0 rfl DL
  refine lg hK2 hcs fun v16 h16=>?_
  refine gp hK2 hcs fun v17 h17=>?_
  have e17:v17.heap=v12.heap:=by rw [h17,h16,e15]
  have hw8:Region.wanted c.Om (yielded #[c.Om,c.Ol] a5.tmps)=true:=by unfold Region.wanted;rw [hc.f8g]
  have hrng8:List.range (#[c.Om,c.Ol]:Array Oper).size=[0,1]:=rfl
  rw [hrng8]
  refine hK2.func (i:=0) (o:=c.Om) hbk hbr rfl hw8 hc.f8op (.inr hc.wN) (fun x hx=>by simp at hx) (fun x hx=>xR (hc.capsok x hx)) ?_
  rw [hc.f8d]
  simp only [Array.map_empty]
  generalize ha6:a5.put (some c.d23) (.func (.func c.wc) #[] (c.caps.map a5.eval))=a6
  have p6:Ev.TR ρ n (Ev.strike (Ev.strike (Ev.strike t2 c.d8) c.d22) c.d23) a6.tmps:=by rw [←ha6];exact p5.forget hc.h23 _
  have hd23:a6.tmps.getD c.d23 undef = .func (.func c.wc) #[] (c.caps.map a5.eval):=by
   rw [Array.getD_eq_getD_getElem?,← ha6,Ev.lG a5 (by rw [p5.size];exact hn23)];rfl
  have hR17:Rows vz (g+1) v17:=hR12.same e17
  have hb17:v17.heap[n0+g]? = some (.cells #[.int kd z] c.tid (0,0)):=by rw [e17];exact hb12
  have hup:ρ nb = .aT:=hu nb (by omega) (by omega)
  have hva:Ev.eQ (Ev.upd ρ nb (.at_ (n0+g) 0)) args (c.caps.map a5.eval).toList:=by
   have hle:Ev.Le ρ (Ev.upd ρ nb (.at_ (n0+g) 0)):=Ev.mP hup _
   have q5:=(p5.mono hle).know hc.h8 hd8' (u:=.pointer (some ⟨nb,0,none⟩)) (.ptr ⟨by show Ev.BR _ nb _;unfold Ev.BR;rw [Ev.upd_same],rfl,rfl,rfl⟩)
   have:=(Ev.dh q5).opts eargs
   simpa using this
  have hw8g:Region.wanted c.Ol (yielded #[c.Om,c.Ol] a6.tmps)=true:=by unfold Region.wanted;rw [hc.g8g]
  refine @KO.go_ (aK P L N) _ P (· ∈ L) Lk.tWg Ro Wg Ch pay v17 (b.atR a6 (.inRegion #[c.Om,c.Ol] [1] :: .inBlock c.lM :: .code (.region c.i9 c.ops9 false) :: .inLoop c.loopBody :: .inBlock c.ry :: .code (.seq (.region c.i10 #[c.Hf] false) rest)::k0)) cs #[c.Om,c.Ol] 1 (nT - (r+1)) [] _ c.Ol c.d23 (.func c.wc) #[] (c.caps.map a5.eval) c.ats8 _ n0 f0 w0 rfl hbr (by show b.kind ≠ .early;rw [hbk];intro h;cases h) rfl rfl hw8g hc.g8op hd23 (fun x=>x=n0+g) (fun x hx=>by subst hx;have:=hR17.size;omega) (fun x o hx ho=>by subst hx;rw [hb17] at ho;cases ho;rfl)
   (fun f w own hp hR0 hRo hag hoW hoC hoH hlive=>?_) (yI P Lk.tWg Wg Ch Ro nT (@Head (aK P L N) P (· ∈ L) Lk Ro au.ch Wg Ch w0 n0 f0 End) pay r) (by cases r<;>rfl) (fun a7 h7=>?_) ?_
  ·rw [hp0]
   exact DF.child hz hSk H hCW hRW hN hI hc hr hsh hlean hn0 hW hbW hfW hCc hbC hfC hnC hnC2 hnW2 hu hnew (by omega) hR17 hb17 ework (show (b.atR a6 _).tmps.getD c.d23 undef=_ from hd23) hva hp hRo hag hoW hoC hoH
  ·cases r<;>exact h7
  ·rw [Frame.finish_atR]
   have hdst:(#[c.Om,c.Ol]:Array Oper)[1]?.bind (·.dst)=none:=hc.g8d
   rw [hdst]
   have hput:a6.put none undef=a6:=rfl
   rw [hput]
   have hR18:Rows vz (g+1) (iR (fun x=>x=n0+g) v17):=by
    refine ⟨by rw [jy];exact hR17.size,fun x hx=>?_,fun x o hx ho=>?_⟩
    ·rw [FO (B:=fun y=>y=n0+g) (b:=x) (show ¬ x=n0+g by omega)];exact hR17.old x hx
    ·obtain ⟨x0,h1',h2' | h2'⟩:=kG ho
     ·have:=hR17.new x x0 hx h1'
      rw [h2'.2]
      cases x0<;>first | rfl | (cases this;done)
     ·rw [h2'.2];exact hR17.new x x0 hx h1'
   have hK3:=@JB _ P L N hz hSk Lk.tWg Wg Ch Ro (kO P Lk.tWg Wg Ch Ro (yI P Lk.tWg Wg Ch Ro nT (@Head (aK P L N) P (· ∈ L) Lk Ro au.ch Wg Ch w0 n0 f0 End) pay r)) n0 f0 w0 rfl (by cases r<;>exact DL)
   refine lg hK3 hcs fun v19 h19=>?_
   refine Cf hK3 hcs fun v20 h20=>?_
   refine Bf hK3 hcs e9 p6 fun a7 v21 r1 r2 r3=>?_
   refine Ea hK3 hcs fun v22 h22=>?_
   have hR22:Rows vz (g+1) v22:=hR18.same (by rw [h22,r2,h20,h19])
   refine ih ps2 t6 tE e2 (g+1) a7 v22 hR22 r3 (fun j hj=>?_) fun a' v' s1 s2 s3=>hEnd a' v' ?_ (by rw [←hgs];exact s2) s3
   ·have:=hpay (j+1) (by omega)
    rw [show r+1 - (j+1)=r - j by omega] at this
    simpa using this
   ·rw [s1,r1,← ha6,Ev.put_defers,← ha5,Ev.put_defers,← ha4,Ev.put_defers,p1,d1]
end
end Crew
end Go
end
end
section
section
namespace Go
namespace Crew
open Go.Conc Go.ConcN Go.Ren Go.Conc.Lib Go.ConcR.Gen Go.ConcN.Gen
open Go.ConcR (KK wgBlock WgAt stA smA)
def GI (ty:TypeId) (gW gC cap:Nat):Fact:=fun Shr Hid _ f w t=>Shr (f gW)∧Shr (f gC)∧Hid (f gC)∧f gC≠f gW∧WgAt ty (f gW) w 0 0∧(∃ rz tm,w.heap[f gC]? = some (.chan cap #[] false 0 rz tm))∧NoRelease (stA (f gW)) t
def IX (gC cap:Nat) (vals:List Value):Fact:=fun Shr Hid _ f w _=>Shr (f gC)∧Hid (f gC)∧∃ (l:List Value) (s rz:Nat) (tm:Bool),l.Perm vals∧w.heap[f gC]? = some (.chan cap l.toArray false s rz tm)
section
variable [gm] {P:Program} {S:FuncId→Prop} {Z Shr Hid Ro own:Nat→Prop} {f:Nat→Nat} {g:Goroutine} {v w:World}
theorem di.VM (h:di P S Ro own Hid f g v w) {b:Nat} {x:Obj} (hx:v.heap[b]? = some x) (hc:x.isChan=true):Hid (f b):=by
 rcases h.held b x hx with h1 | h1 | ⟨_,h1⟩ | ⟨h1,_⟩
 ·rw [h1.2] at hc;cases hc
 ·cases x<;>first | (cases h1;done) | (cases hc;done)
 ·rcases h1 with ⟨_,_,_,rfl,_⟩ | ⟨_,rfl⟩<;>cases hc
 ·exact h1
end
theorem Ru {o:Nat} {ps:List (Option Value)} {sent:List Nat} (hn:sent.Nodup) (hm:∀ i,i∈sent↔i<o+ps.length∧(if i<o then none else (ps[i - o]?).getD none:Option Value).isSome=true) :
  (sent.map fun i=>(if i<o then none else (ps[i - o]?).getD none:Option Value).getD undef).Perm (ps.filterMap id):=by
 have key:∀ (ps:List (Option Value)) (o:Nat),((List.range' o ps.length).filter fun i=>(if i<o then none else (ps[i - o]?).getD none:Option Value).isSome).map (fun i=>(if i<o then none else (ps[i - o]?).getD none:Option Value).getD undef)=ps.filterMap id:=by
  intro ps
  induction ps with
  | nil=>intro o;rfl
  | cons p ps ih=>
   intro o
   have ih':=ih (o+1)
   have e1:∀ i∈List.range' (o+1) ps.length,(if i<o then none else ((p::ps)[i - o]?).getD none:Option Value)=(if i<o+1 then none else (ps[i - (o+1)]?).getD none:Option Value):=fun i hi=>by
    have:=(List.mem_range'_1.1 hi).1
    rw [if_neg (by omega),if_neg (by omega),show i - o=(i - (o+1))+1 by omega]
    simp
   rw [List.length_cons,List.range'_succ,List.filter_cons]
   have e2:((List.range' (o+1) ps.length).filter fun i=>(if i<o then none else ((p::ps)[i - o]?).getD none:Option Value).isSome)=(List.range' (o+1) ps.length).filter fun i=>(if i<o+1 then none else (ps[i - (o+1)]?).getD none:Option Value).isSome:=
    List.filter_congr fun i hi=>by rw [e1 i hi]
   have e3:(((List.range' (o+1) ps.length).filter fun i=>(if i<o+1 then none else (ps[i - (o+1)]?).getD none:Option Value).isSome).map fun i=>(if i<o then none else ((p::ps)[i - o]?).getD none:Option Value).getD undef)=ps.filterMap id:=by
    rw [←ih']
    exact List.map_congr_left fun i hi=>by rw [e1 i (List.mem_filter.1 hi).1]
   rw [e2]
   cases p with
   | none=>simp only [Nat.lt_irrefl,if_false,Nat.sub_self,List.getElem?_cons_zero,Option.getD_some,Option.isSome_none,Bool.false_eq_true];rw [e3];rfl
   | some u=>
    simp only [Nat.lt_irrefl,if_false,Nat.sub_self,List.getElem?_cons_zero,Option.getD_some,Option.isSome_some,if_true,List.map_cons]
    rw [e3];rfl
 rw [←key ps o]
 refine List.Perm.map _ ?_
 refine (List.perm_ext_iff_of_nodup hn ((List.nodup_range' ..).filter _)).2 fun i=>?_
 rw [hm,List.mem_filter,List.mem_range'_1]
 constructor
 ·rintro ⟨h1,h2⟩
  refine ⟨⟨?_,by omega⟩,h2⟩
  rcases Nat.lt_or_ge i o with h3 | h3
  ·rw [if_pos h3] at h2;cases h2
  ·exact h3
 ·rintro ⟨⟨_,h1⟩,h2⟩;exact ⟨by omega,h2⟩
section
variable {P:Program} {L N:List FuncId} {Lk:WgLink} {c:DF} {inv:Ev.Iv} {Z:Nat→Prop} {w00:World} {Post:Value→World→Prop}
theorem DF.crew (hz:aN P) (hSk:kU P (· ∈ L)) (H:WgLib P Lk) (hN:Ev.lQ inv) (hI:∀ f args h v h',inv (.func f) args h=some (v,h')→Ev.aV P f args h v h') (hc:c.OK P L N Lk)
  {ρ:Ev.aY} {h:Ev.H} {v:World} {n nW nC gW kW gC kC cap hi r nn:Nat} (hn8:c.d8<n) (hn23:c.d23<n) (hr:Ev.HR ρ h v) (hW:ρ nW = .at_ gW kW) (hgW:gW<v.heap.size) (hC:ρ nC = .at_ gC kC) (hgC:gC<v.heap.size) (hnC:h.get nC=none) (hnC2:nC<h.next) (hnW2:nW<h.next) (hu:Ev.gK ρ h.next hi) (hhi:h.next+1≤hi)
  {t tE:Ev.T Value} {ps:List (Option Value)} (e:c.xI P L N inv n nW nC hi ⟨Ev.zG h.t,h.next,[]⟩ r t=some (ps,tE)) (hps:ps.length=r) (hcap:r≤cap) (hr31:r<2147483648)
  {b:Frame} (hbk:b.kind = .normal) (hbr:b.roundOf=none) {rest:Code} {k0:List Item} {cs:List Frame} (hcs:Ev.qM cs) {a:Act} (ht:Ev.TR ρ n t a.tmps) (hgn:gW<nn∧gC<nn)
  (after:∀ a' v',a'.defers=a.defers→Ev.TR ρ n tE a'.tmps→Ev.HR ρ h v'→Ev.Stp ρ h v ρ h v'→@lU (aK P L N) P (· ∈ L) Z w00 Post nn (IX gC cap (ps.filterMap id)) ((b.atR a' (.inRegion #[c.Hf] [0] :: .code rest::k0)).finish (.tuple #[])) cs v') :
  @lU (aK P L N) P (· ∈ L) Z w00 Post nn (GI Lk.tWg gW gC cap) (b.atR a (.code c.loopBody :: .inLoop c.loopBody :: .inBlock c.ry :: .code (.seq (.region c.i10 #[c.Hf] false) rest)::k0)) cs v:=by
 intro hnn Shr Hid o f gs w sl tr q hM hR hf
 obtain ⟨f1,f2,f3,f4,f5,⟨rz,tm,f6⟩,f7⟩:=hf
 have hp:@di (aK P L N) P (· ∈ L) Z (mine Z Shr w) Hid f _ v w:=@Mirror.oH (aK P L N) _ _ _ _ _ _ _ _ _ _ _ _ _ hM
 have halone:=@Mirror.alone (aK P L N) _ _ _ _ _ _ _ _ _ _ _ _ _ hM
 have hcalm:=@Mirror.calm (aK P L N) _ _ _ _ _ _ _ _ _ _ _ _ _ hM
 let pay:Nat→Option Value:=fun i=>if i<o then none else (ps[i - o]?).getD none
 letI:au:=⟨Hid⟩
 have hvz:(Az (fun _=>True) v).heap.size=v.heap.size:=Aw _ v
 refine @SX (aK P L N) ⟨Hid⟩ P (· ∈ L) Lk Z Shr o H Post (fun _=>True) f _ cs v w gs sl tr q (f gW) (f gC) r cap rz tm pay
  (fun g v'=>∃ a',a'.defers=a.defers∧g=Conc.G ((b.atR a' (.inRegion #[c.Hf] [0] :: .code rest::k0)).finish (.tuple #[])) cs∧Rows (Az (fun _=>True) v) (0+r) v'∧Ev.TR ρ n tE a'.tmps)
  hM (fun b' x _ hx=>⟨fun a' l e'=>?_,fun hcn=>@di.VM (aK P L N) _ _ _ _ _ _ _ _ _ hp _ _ hx hcn⟩) ⟨f1,f2⟩ f4 f5 f6 f7 hcap hr31 (fun i hi=>if_pos hi) ?_ ?_
 ·have:=hr.dH b' x hx
  rw [e'] at this;cases this
 ·have hvz':(Az (fun _=>True) v).heap.size=v.heap.size:=hvz
  rw [hvz']
  refine DF.starts (hS:=⟨Ev.zG h.t,h.next,[]⟩) (vz:=Az (fun _=>True) v) (n0:=v.heap.size) hz hSk H f4 ?_ hN hI hc (show Ev.HR ρ ⟨Ev.zG h.t,h.next,[]⟩ _ from ⟨(hr.Az (fun _=>True)).dH,(hr.Az (fun _=>True)).ob,(hr.Az (fun _=>True)).inj⟩) (fun b' o' hb'=>?_) (fun x o' hx=>?_) hvz.symm hn8 hn23 hW hgW rfl hC hgC rfl ?_ hnC2 hnW2 hu hhi hbk hbr hcs r ps t tE e 0 a _ ⟨rfl,fun _ _=>rfl,fun x o' hx ho=>?_⟩ ht (fun j hj=>?_) fun a' v' d1 d2 d3=>⟨a',d1,rfl,d2,d3⟩
  ·rintro (h1 | ⟨x,_,_,_,h1⟩)
   ·exact (halone _ h1).2 f1
   ·exact h1.1.2 f1
  ·obtain ⟨_,d,t',_,rfl,_⟩:=Ev.H.zF hb'
   exact ⟨d,t',rfl⟩
  ·obtain ⟨x0,h1,h2⟩:=rq hx
   have h2:o'=FW x0:=by
    rcases h2 with h2 | h2
    ·exact h2.2
    ·exact absurd trivial h2.1
   have hlt:=(Array.getElem?_eq_some_iff.1 h1).1
   rcases @di.held (aK P L N) _ _ _ _ _ _ _ _ _ hp x x0 h1 with h3 | h3 | ⟨h3,_⟩ | ⟨h3,h4⟩
   ·exact .inr (.inl (.inr ⟨x,trivial,hlt,rfl,h3.1⟩))
   ·left
    rw [h2]
    cases x0<;>first | (cases h3;done) | exact h3
   ·exact .inr (.inl (.inl h3))
   ·refine .inr (.inr ⟨?_,h3⟩)
    rw [h2]
    cases x0<;>first | (cases h4;done) | rfl
  ·show (Ev.zG h.t).get nC=none
   rw [Ev.xG]
   have:h.t.get nC=none:=hnC
   rw [this]
  ·have:=(Array.getElem?_eq_some_iff.1 ho).1
   omega
  ·show (if o+r - (r - j)<o then none else (ps[o+r - (r - j) - o]?).getD none)=_
   rw [if_neg (by omega),show o+r - (r - j) - o=j by omega]
 ·rintro f' g' v' gs' w' sl' t' q' sent ⟨a',d1,rfl,d2,d3⟩ hM' hag hsz hch hnd hmem hRely
  have hsame:∀ x o',v.heap[x]? = some o'→(pJ (fun _=>True) v v').heap[x]? = some o':=fun x o' hx=>by
   have hlt:=(Array.getElem?_eq_some_iff.1 hx).1
   obtain ⟨y,hy⟩:∃ y,(pJ (fun _=>True) v v').heap[x]? = some y:=⟨_,Array.getElem?_eq_getElem (by rw [lZ];exact Nat.lt_of_lt_of_le hlt hsz)⟩
   rcases kK hy with ⟨_,h2⟩ | ⟨h2,_⟩
   ·rw [hy,← h2,hx]
   ·exact absurd ⟨trivial,hlt⟩ h2
  have hr':Ev.HR ρ h (pJ (fun _=>True) v v'):=hr.pJ (fun _ _ _ _ _ _ _=>trivial) (d2.YC (hr.Az (fun _=>True)).dH) hsz
  have hst:Ev.Stp ρ h v ρ h (pJ (fun _=>True) v v'):=⟨.refl ρ,Nat.le_refl _,fun _ h _=>h,by rw [lZ];exact hsz,[],rfl,fun x o' hx _=>hsame x o' hx,fun _ _ _ h=>.inl h,fun _ h=>by simp at h,fun _ _=>rfl,fun _ _ _=>rfl⟩
  refine after a' _ d1 d3 hr' hst (by rw [lZ];omega) Shr Hid (o+r) f' gs' w' sl' t' q' hM' (hR.trans hRely) ⟨by rw [hag gC hgC];exact f2,by rw [hag gC hgC];exact f3,_,_,rz,tm,?_,by rw [hag gC hgC];exact hch⟩
  exact Ru hnd (fun i=>by rw [hmem i,hps])
end
end Crew
end Go
end
end
section
section
namespace Go
namespace Crew
open Go.Conc Go.ConcN Go.Ren
section
variable [gm] {P:Program} {S:FuncId→Prop}
def GH (n:Nat) (x:Value):Prop:=∀ (H H':Fr) (h h':Nat→Nat),h n=h' n→@val H h x = @val H' h' x
theorem Hm (n:Nat):GH n (.chan (some n)):=fun H H' h h' e=>by
 rw [D5,D5];simp [e]
theorem Ju (n:Nat):GH n (.pointer (some ⟨n,0,none⟩)):=fun H H' h h' e=>by
 rw [lX,lX];simp [addr,e]
theorem P7 {fr:Frame} {cs:List Frame} {v:World} {x:Value} {og:Obj} (hog:isCells og=true ∨ ∃ cap s r tm cl,og = .chan cap #[] cl s r tm) (ok:Ok P S (Conc.G fr cs) v) (hx:GH v.heap.size x):Ok P S (Conc.G (fr.finish x) cs) { v with heap:=v.heap.push (ou og) }:=by
 have hobj:∀ (H H':Fr) (h h':Nat→Nat),@obj H h (ou og) = @obj H' h' (ou og):=fun H H' h h'=>by
  rcases hog with h1 | ⟨_,_,_,_,_,rfl⟩
  ·cases og<;>first | (cases h1;done) | simp [ou,obj,vals]
  ·simp [ou,obj,vals]
 have hget:∀ b o,(v.heap.push (ou og))[b]? = some o→v.heap[b]? = some o∨o=ou og:=fun b o hb=>by
  rw [Array.getElem?_push] at hb
  split at hb
  ·exact .inr (Option.some.inj hb).symm
  ·exact .inl hb
 refine ⟨fun b o hb=>?_,⟨ok.uy.frame.finish x,ok.uy.callers,rfl⟩,rfl,ok.up,by have:=ok.vS;simp;omega,fun H H' h h' hal=>?_,fun H H' h ha b o hb=>?_⟩
 ·rcases hget b o hb with h1 | rfl
  ·exact ok.nv b o h1
  ·rcases hog with h1 | ⟨_,_,_,_,_,rfl⟩
   ·cases og<;>first | (cases h1;done) | exact ⟨.inr rfl,trivial⟩
   ·exact ⟨.inl rfl,trivial⟩
 ·have hal':Ren.Alike (Nm S) (v.heap.size+1) H H' h h':=by
   have:(({ v with heap:=v.heap.push (ou og) }:World)).heap.size=v.heap.size+1:=by simp
   rw [←this];exact hal
  obtain ⟨h1,h2⟩:=ok.bound H H' h h' (hal'.mono (Nat.le_succ _))
  refine ⟨?_,fun b o hb=>?_⟩
  ·unfold yB at h1 ⊢
   simp only [Goroutine.mk.injEq,and_true,Conc.G] at h1 ⊢
   refine ⟨?_,h1.2⟩
   have e1:=@bg H P h S _ fr x ok.uy.frame.items
   have e2:=@bg H' P h' S _ fr x ok.uy.frame.items
   rw [←e1,← e2,h1.1,hx H H' h h' (hal'.blk _ (Nat.lt_succ_self _))]
  ·rcases hget b o hb with h3 | rfl
   ·exact h2 b o h3
   ·exact hobj H H' h h'
 ·rcases hget b o hb with h3 | rfl
  ·exact ok.clean H H' h ha b o h3
  ·exact hobj H H' h h
theorem Qa {fr:Frame} {cs:List Frame} {ops:Array Oper} {i:Nat} {rest:List Nat} {k:List Item} {o:Oper} {v:World} {x:Value} {og:Obj} (hm:fr.mode = .run) (hro:fr.roundOf=none) (hk:fr.kind ≠ .early) (ht:fr.todo = .inRegion ops (i::rest)::k) (ho:ops[i]? = some o) (hw:Region.wanted o (yielded ops fr.tmps)=true)
  (hrun:∀ (f1:Nat→Nat) (w1:World),(∀ g,g<P.globals.size→f1 g=g)→f1 v.heap.size=w1.heap.size→(execOp (frame f1 fr).eval o).run P w1 = .ok (.value (val f1 x)) { w1 with heap:=w1.heap.push og }∧(execOp (frame f1 fr).eval o).events P w1 #[]=#[])
  (ok:Ok P S (Conc.G fr cs) v) (f f1:Nat→Nat) (w1:World) (hfix:∀ g,g<P.globals.size→f g=g) (hag:∀ j,j<v.heap.size→f1 j=f j) (hnew:f1 v.heap.size=w1.heap.size) :
  stepG P true (aF f [] (Conc.G fr cs)) w1 = .go (aF f1 [] (Conc.G (fr.finish x) cs)) { w1 with heap:=w1.heap.push og } #[]:=by
 have hb:=(ok.bound jW jW f f1 ⟨fun j hj=>(hag j hj).symm,fun _ _=>rfl⟩).1
 rw [yV hb ok.up]
 have e2:∀ f' (fr:Frame),aF f' [] (Conc.G fr cs)=Conc.G (frame f' fr) (stk f' [] cs):=fun f' fr=>rfl
 rw [e2,e2]
 have hfix1:∀ g,g<P.globals.size→f1 g=g:=fun g hg=>(hag g (Nat.lt_of_lt_of_le hg ok.vS)).trans (hfix g hg)
 obtain ⟨hr,he⟩:=hrun f1 w1 hfix1 hnew
 have e:=xx hm hro ht f1
 have hw':Region.wanted o (yielded ops (vals f1 fr.tmps))=true:=by rw [dM];exact hw
 have hst:=stepG_value (P:=P) (main:=true) (cs:=stk f1 [] cs) (b:=frame f1 fr) (k:=k.map (item f1)) (a:={ tmps:=vals f1 fr.tmps,defers:=fr.defers.map (deferred f1) }) (w:=w1) (rest:=rest) ho hw' (show (frame f1 fr).kind ≠ .early from hk)
  (show (execOp (Act.eval { tmps:=vals f1 fr.tmps,defers:=fr.defers.map (deferred f1) }) o).run P w1=_ from by rw [nP];exact hr)
 have hl:listed P (frame f1 fr).fn { tmps:=vals f1 fr.tmps,defers:=fr.defers.map (deferred f1) } o w1=#[]:=by
  unfold listed
  rw [nP,he];exact seen_none P _
 rw [hl,← e] at hst
 rw [hst,← bg fr x ok.uy.frame.items]
 congr 2
 conv=>rhs;rw [e]
 rw [Frame.finish_at,ho]
 rfl
end
end Crew
end Go
end
end
section
section
namespace Go
namespace Crew
open Go.Conc Go.ConcN Go.Ren
open Go.ConcR (KK wgBlock WgAt stA smA)
theorem Hg {t:Trace} {n:Nat} (h:∀ op∈t,op.act.low n) {A:Addr} (hA:n≤A.block):NoRelease A t:=fun i hi=>by
 unfold Trace.act? at hi
 cases ho:t[i]? with
 | none=>rw [ho] at hi;cases hi
 | some op=>
  rw [ho] at hi
  have h1:=h op (Array.mem_of_getElem? ho)
  have h2:op.act = .mark (.release A):=by simpa using hi
  rw [h2] at h1
  have h3:A.block<n:=h1
  omega
def Dt (gC cap:Nat):Fact:=fun Shr Hid _ f w _=>Shr (f gC)∧Hid (f gC)∧∃ rz tm,w.heap[f gC]? = some (.chan cap #[] false 0 rz tm)
theorem Dt.still {gC cap n:Nat} (h:gC<n):(Dt gC cap).Still n:=fun Shr Hid o f f' w w' t t' ⟨h1,h2,rz,tm,h3⟩ hs hf=>by
 have e:=hf gC h
 refine ⟨by rw [e];exact h1,by rw [e];exact h2,rz,tm,?_⟩
 rw [e,hs.shr _ (Array.getElem?_eq_some_iff.1 h3).1 h1];exact h3
theorem GI.still {ty:TypeId} {gW gC cap n:Nat} (hW:gW<n) (hC:gC<n):(GI ty gW gC cap).Still n:=fun Shr Hid o f f' w w' t t' ⟨h1,h2,h3,h4,h5,⟨rz,tm,h6⟩,h7⟩ hs hf=>by
 have eW:=hf gW hW
 have eC:=hf gC hC
 refine ⟨by rw [eW];exact h1,by rw [eC];exact h2,by rw [eC];exact h3,by rw [eC,eW];exact h4,?_,⟨rz,tm,?_⟩,by rw [eW];exact hs.norel _ h7⟩
 ·unfold WgAt at h5 ⊢
  rw [eW,hs.shr _ (Array.getElem?_eq_some_iff.1 h5).1 h1];exact h5
 ·rw [eC,hs.shr _ (Array.getElem?_eq_some_iff.1 h6).1 h2];exact h6
theorem IX.still {gC cap n:Nat} {vals:List Value} (h:gC<n):(IX gC cap vals).Still n:=fun Shr Hid o f f' w w' t t' ⟨h1,h2,l,s,rz,tm,h3,h4⟩ hs hf=>by
 have e:=hf gC h
 refine ⟨by rw [e];exact h1,by rw [e];exact h2,l,s,rz,tm,h3,?_⟩
 rw [e,hs.shr _ (Array.getElem?_eq_some_iff.1 h4).1 h1];exact h4
def iZ (gC cap:Nat) (l:List Value):Fact:=fun Shr Hid _ f w _=>Shr (f gC)∧Hid (f gC)∧∃ (s rz:Nat) (tm:Bool),w.heap[f gC]? = some (.chan cap l.toArray true s rz tm)
theorem iZ.still {gC cap n:Nat} {l:List Value} (h:gC<n):(iZ gC cap l).Still n:=fun Shr Hid o f f' w w' t t' ⟨h1,h2,s,rz,tm,h4⟩ hs hf=>by
 have e:=hf gC h
 refine ⟨by rw [e];exact h1,by rw [e];exact h2,s,rz,tm,?_⟩
 rw [e,hs.shr _ (Array.getElem?_eq_some_iff.1 h4).1 h1];exact h4
section
variable [gm] {P:Program} {S:FuncId→Prop} {Z:Nat→Prop} {w0:World} {Post:Value→World→Prop}
theorem fin_at {b:Frame} {a:Act} {ops:Array Oper} {i:Nat} {rest:List Nat} {k:List Item} {o:Oper} (ho:ops[i]? = some o) (x:Value):(b.atR a (.inRegion ops (i::rest)::k)).finish x=b.atR (a.put o.dst x) (.inRegion ops rest::k):=by
 have:=Frame.finish_atR b a ops i rest k x
 rw [ho] at this
 simpa using this
theorem lU.ZE {b:Frame} {a:Act} {k:List Item} {cs:List Frame} {v:World} {ops:Array Oper} {i:Nat} {rest:List Nat} {o:Oper} (hbk:b.kind = .normal) (hbr:b.roundOf=none) (ho:ops[i]? = some o) (hw:Region.wanted o (yielded ops a.tmps)=true)
  {ty el:TypeId} {s:Operand} {d:ChanDir} {ti:TypeInfo} {m:Nat} (hop:o.op = .makeChan ty s) (hty:P.underlying ty=some (.chan d el)) (hel:P.info? el=some ti) (hs:bG P (Nm S) s) (hv:a.eval s = .int .i64 m) (hm:m<1000000) (hti:ti.bytes<1000000)
  (next:lU P S Z w0 Post (v.heap.size+1) (Dt v.heap.size m) (b.atR (a.put o.dst (.chan (some v.heap.size))) (.inRegion ops rest::k)) cs { v with heap:=v.heap.push (.chan m #[] false 0 0 false) }):KM P S Z w0 Post (b.atR a (.inRegion ops (i::rest)::k)) cs v:=by
 have hfin:=fin_at (b:=b) (a:=a) (rest:=rest) (k:=k) ho (.chan (some v.heap.size))
 rw [←hfin] at next
 refine lU.make (n:=0) (F:=fun _ _ _ _ _ _=>True) (F':=Dt v.heap.size m) (og:=.chan m #[] false 0 0 false) (.inr rfl) (fun ok=>Qa rfl hbr (by show b.kind ≠ .early;rw [hbk];intro h;cases h) rfl ho hw (fun f1 w1 hfix hnew=>?_) ok)
  (fun ok=>P7 (.inr ⟨_,_,_,_,_,rfl⟩) ok (Hm _)) (fun Shr Hid o f gs w t q f1 w' t' hM _ hh hag hnew hnr=>?_) next (Nat.zero_le _)
 ·have hev:(frame f1 (b.atR a (.inRegion ops (i::rest)::k))).eval s = .int .i64 m:=by
   rw [fG (S:=Nm S) hfix (fun _ _=>rfl) _ hs,show (b.atR a (.inRegion ops (i::rest)::k)).eval s=a.eval s from congrFun (Frame.eval_atR b a _) s,hv]
   simp
  have hx:val f1 (.chan (some v.heap.size)) = .chan (some w1.heap.size):=by simp [hnew]
  have hmul:ti.bytes*m≤1000000000000:=Nat.le_trans (Nat.mul_le_mul (Nat.le_of_lt hti) (Nat.le_of_lt hm)) (by decide)
  have c1:¬ ((m:Int)<0):=by omega
  have c2:¬ (9223372036854775807<(m:Int)):=by omega
  have c3:¬ (281474976710544<(ti.bytes:Int)*(m:Int)):=by
   rw [←Int.natCast_mul]
   have h2:ti.bytes*m≤1000000000000:=hmul
   generalize ti.bytes*m=q at h2 ⊢
   omega
  have hrun:(Instr.makeChan ty (.int .i64 m)).run P w1 = .ok (.chan (some w1.heap.size)) { w1 with heap:=w1.heap.push (.chan m #[] false 0 0 false) }:=by
   simp [Instr.makeChan,asInt,asIntOf,run_underlying hty,typeInfo,hel,c1,c2,c3]
  have hevn:(Instr.makeChan ty (.int .i64 m)).events P w1 #[]=#[]:=by
   simp [Instr.makeChan,asInt,asIntOf,run_underlying hty,typeInfo,hel,c1,c2,c3]
  refine ⟨?_,?_⟩
  ·unfold execOp
   rw [hop,hx]
   simp only [hev,Sem.run_bind,hrun,Result.andThen,Sem.run_pure]
  ·unfold execOp
   rw [hop]
   simp only [hev,Sem.events_bind,hevn,hrun,Result.evThen_ok,Sem.events_pure]
 ·refine ⟨.inr hnew,.inr ⟨hnew,rfl⟩,0,false,?_⟩
  rw [hh,hnew];simp
theorem lU.XD {b:Frame} {a:Act} {k:List Item} {cs:List Frame} {v:World} {ops:Array Oper} {i:Nat} {rest:List Nat} {o:Oper} (hbk:b.kind = .normal) (hbr:b.roundOf=none) (ho:ops[i]? = some o) (hw:Region.wanted o (yielded ops a.tmps)=true)
  {ty:TypeId} {z:Value} (hop:o.op = .alloc ty) (hz:Ev.zeroOf P ty=some z) (hzc:z.cells=#[.int .u64 0,.int .u32 0]) {gC cap n:Nat} (hgC:gC<v.heap.size) (hn:n≤v.heap.size)
  (next:lU P S Z w0 Post (v.heap.size+1) (GI ty v.heap.size gC cap) (b.atR (a.put o.dst (.pointer (some ⟨v.heap.size,0,none⟩))) (.inRegion ops rest::k)) cs { v with heap:=v.heap.push (.cells #[] ty (0,0)) }):lU P S Z w0 Post n (Dt gC cap) (b.atR a (.inRegion ops (i::rest)::k)) cs v:=by
 have hfin:=fin_at (b:=b) (a:=a) (rest:=rest) (k:=k) ho (.pointer (some ⟨v.heap.size,0,none⟩))
 rw [←hfin] at next
 refine lU.make (n:=n) (F:=Dt gC cap) (F':=GI ty v.heap.size gC cap) (og:=.cells z.cells ty) (.inl rfl) (fun ok=>Qa rfl hbr (by show b.kind ≠ .early;rw [hbk];intro h;cases h) rfl ho hw (fun f1 w1 hfix hnew=>?_) ok)
  (fun ok=>P7 (.inl rfl) ok (Ju _)) (fun Shr Hid o f gs w t q f1 w' t' hM hf hh hag hnew hnr=>?_) next hn
 ·have hx:val f1 (.pointer (some ⟨v.heap.size,0,none⟩)) = .pointer (some ⟨w1.heap.size,0,none⟩):=by simp [hnew,addr]
  obtain ⟨hzr,_⟩:=Ev.jG hz w1
  have hze:(zeroValue ty).events P w1 #[]=#[]:=by
   unfold Ev.zeroOf at hz
   unfold zeroValue typeInfo
   split at hz
   ·rename_i ti hti
    split at hz
    ·rename_i zz hzz
     simp [hti,hzz]
    ·cases hz
   ·cases hz
  refine ⟨?_,?_⟩
  ·unfold execOp
   rw [hop,hx]
   simp [Instr.alloc,hzr,newVar,newRow]
  ·unfold execOp
   rw [hop]
   simp [Instr.alloc,hzr,hze,newVar,newRow]
 ·obtain ⟨h1,h2,rz,tm,h3⟩:=hf
  have hlt:=(Array.getElem?_eq_some_iff.1 h3).1
  have eC:=hag gC hgC
  refine ⟨.inr hnew,by rw [eC];exact .inl h1,by rw [eC];exact .inl h2,by rw [eC,hnew];omega,?_,⟨rz,tm,?_⟩,hnr _ (Hg hM.calm.base.low (show w.heap.size≤f1 v.heap.size by omega))⟩
  ·unfold WgAt wgBlock
   rw [hh,hnew,hzc];simp
  ·rw [eC,hh,Array.getElem?_push,if_neg (by omega)];exact h3
end
end Crew
end Go
end
end
section
section
namespace Go
namespace Crew
open Go.Conc Go.ConcN Go.Ren
section
variable {P:Program}
theorem PW {F:Frame} {ops:Array Oper} {i:Nat} {rest:List Nat} {k:List Item} {o:Oper} {ch:Operand} {Ch:Nat} {ty el:TypeId} {d:ChanDir} {fl:Bool} {z:Value}
  (hm:F.mode = .run) (hro:F.roundOf=none) (ht:F.todo = .inRegion ops (i::rest)::k) (ho:ops[i]? = some o) (hw:Region.wanted o (yielded ops F.tmps)=true)
  (hop:o.op = .recv ty ch fl) (hty:P.underlying ty=some (.chan d el)) (hz:Ev.zeroOf P el=some z) (hc:F.eval ch = .chan (some Ch)) (m:Bool) (cs:List Frame) (w:World) :
  stepG P m (G F cs) w = .comm (G F cs) #[rcase Ch z] true (.recv fl) w #[]:=by
 have hzr:=fun w=>(Ev.jG (P:=P) hz w).1
 have hze:(zeroValue el).events P w #[]=#[]:=by
  unfold Ev.zeroOf at hz
  unfold zeroValue typeInfo
  split at hz
  ·rename_i ti hti
   split at hz
   ·rename_i zz hzz
    simp [hti,hzz]
   ·cases hz
  ·cases hz
 obtain ⟨fn,tmps,todo,defers,mode,kind,ro⟩:=F
 dsimp only at hm hro ht hw hc ⊢
 subst hm hro ht
 unfold Conc.G stepG stepG.exec
 dsimp only
 rw [if_pos (by rw [ho];simpa using hw)]
 unfold stepG.oper Frame.oper?
 dsimp only
 rw [ho]
 dsimp only
 generalize (Frame.mk fn tmps (.inRegion ops (i::rest)::k) defers .run kind none).eval=ev at hc ⊢
 have hr:(execOp ev o).run P w = .ok (.comm #[rcase Ch z] true (.recv fl)) w:=by
  unfold execOp;rw [hop]
  simp [run_underlying hty,hzr,hc,rcase]
 have he0:(execOp ev o).events P w #[]=#[]:=by
  unfold execOp;rw [hop]
  simp [run_underlying hty,hzr,hze]
 unfold stepG.apply
 simp only [Sem.runT_eq,hr,he0,if_true]
 have hs:seen P fn #[]=#[]:=seen_none P fn
 simp [GStep.after,hs]
end
section
variable [gm] {P:Program} {S:FuncId→Prop} {Z:Nat→Prop} {w0:World} {Post:Value→World→Prop}
theorem uO {n:Nat} {x:Value} (h:aQ x=true):ni S n #[x]:=fun H H' h1 h2 _=>by
 unfold vals
 simp only [List.map_toArray,List.map_cons,List.map_nil]
 rw [@aH H x h h1,@aH H' x h h2]
theorem Et {f:Nat→Nat} {fr:Frame} {cs:List Frame} {v:World} {x:Value} (ok:Ok P S (Conc.G fr cs) v) (hx:aQ x=true):Conc.served (aF f [] (Conc.G fr cs)) x=aF f [] (Conc.G (fr.finish x) cs):=by
 have h1:=bg (f:=f) fr x ok.uy.frame.items
 rw [aH hx] at h1
 show Goroutine.mk ((frame f fr).finish x) (stk f [] cs) .running none none=Goroutine.mk (frame f (fr.finish x)) (stk f [] cs) .running none none
 rw [h1]
theorem eval_any {f:Nat→Nat} {fr:Frame} {cs:List Frame} {v:World} (hfix:∀ g,g<P.globals.size→f g=g) {x:Operand} (hx:bG P (Nm S) x):(frame f fr).eval x=val f (fr.eval x):=fG (S:=Nm S) hfix (fun _ _=>rfl) fr hx
theorem lU.recv1 {b:Frame} {a:Act} {k:List Item} {cs:List Frame} {v:World} {ops:Array Oper} {i:Nat} {rest:List Nat} {o:Oper} (hbr:b.roundOf=none) (ho:ops[i]? = some o) (hw:Region.wanted o (yielded ops a.tmps)=true)
  {ty el:TypeId} {d:ChanDir} {ch:Operand} {z u:Value} (hop:o.op = .recv ty ch true) (hty:P.underlying ty=some (.chan d el)) (hz:Ev.zeroOf P el=some z) (hch:bG P (Nm S) ch) {gC cap n:Nat} {l:List Value} (hv:a.eval ch = .chan (some gC)) (hu:aQ u=true)
  (next:lU P S Z w0 Post n (iZ gC cap l) (b.atR (a.put o.dst (.tuple #[u,.bool true])) (.inRegion ops rest::k)) cs v):lU P S Z w0 Post n (iZ gC cap (u::l)) (b.atR a (.inRegion ops (i::rest)::k)) cs v:=by
 have hfin:=fin_at (b:=b) (a:=a) (rest:=rest) (k:=k) ho (.tuple #[u,.bool true])
 rw [←hfin] at next
 have hcl:aQ (.tuple #[u,.bool true])=true:=by
  have:aQ (.bool true)=true:=rfl
  simp [aQ,nK,hu,this]
 refine lU.recv (fr':=b.atR a []) (z:=z) (fl:=true) fun Shr Hid o' f gs w t q hM hn ⟨h1,h2,s,rz,tm,h3⟩=>⟨f gC,cap,s,rz,_,true,tm,iZ gC cap l,_,h1,h3,by simp,fun d'=>?_,?_,hM.oH.ok.put (uO hcl),fun w' t' hh=>⟨h1,h2,s,rz+1,tm,?_⟩,next⟩
 ·refine PW (F:=frame f (b.atR a (.inRegion ops (i::rest)::k))) (ops:=ops) (i:=i) (rest:=rest) (k:=k.map (item f)) rfl (by simp [frame,Frame.atR,hbr]) (by simp [frame,Frame.atR,item]) ho ?_ hop hty hz ?_ true _ _
  ·rw [show (frame f (b.atR a (.inRegion ops (i::rest)::k))).tmps=vals f a.tmps from rfl,dM];exact hw
  ·rw [eval_any (S:=S) (cs:=cs) (v:=v) hM.oH.fix hch,congrFun (Frame.eval_atR b a _) ch,hv];simp
 ·have:recvd true ((u::l).toArray.getD 0 undef) true = .tuple #[u,.bool true]:=by simp [recvd]
  rw [this];exact Et hM.oH.ok hcl
 ·rw [hh]
  simp only [World.setChan]
  rw [Array.getElem?_setIfInBounds_self_of_lt (Array.getElem?_eq_some_iff.1 h3).1]
  simp
theorem lU.recv0 {b:Frame} {a:Act} {k:List Item} {cs:List Frame} {v:World} {ops:Array Oper} {i:Nat} {rest:List Nat} {o:Oper} (hbr:b.roundOf=none) (ho:ops[i]? = some o) (hw:Region.wanted o (yielded ops a.tmps)=true)
  {ty el:TypeId} {d:ChanDir} {ch:Operand} {z:Value} (hop:o.op = .recv ty ch true) (hty:P.underlying ty=some (.chan d el)) (hz:Ev.zeroOf P el=some z) (hch:bG P (Nm S) ch) {gC cap n:Nat} (hv:a.eval ch = .chan (some gC)) (hzc:aQ z=true)
  (next:lU P S Z w0 Post n (iZ gC cap []) (b.atR (a.put o.dst (.tuple #[z,.bool false])) (.inRegion ops rest::k)) cs v):lU P S Z w0 Post n (iZ gC cap []) (b.atR a (.inRegion ops (i::rest)::k)) cs v:=by
 have hfin:=fin_at (b:=b) (a:=a) (rest:=rest) (k:=k) ho (.tuple #[z,.bool false])
 rw [←hfin] at next
 have hcl:aQ (.tuple #[z,.bool false])=true:=by
  have:aQ (.bool false)=true:=rfl
  simp [aQ,nK,hzc,this]
 refine lU.shut (z:=z) (fl:=true) fun Shr Hid o' f gs w t q hM hn ⟨h1,h2,s,rz,tm,h3⟩=>⟨f gC,cap,s,rz,tm,iZ gC cap [],_,h1,h3,fun d'=>?_,?_,hM.oH.ok.put (uO hcl),fun w' t' hh=>⟨h1,h2,s,rz,tm,by rw [hh];exact h3⟩,next⟩
 ·refine PW (F:=frame f (b.atR a (.inRegion ops (i::rest)::k))) (ops:=ops) (i:=i) (rest:=rest) (k:=k.map (item f)) rfl (by simp [frame,Frame.atR,hbr]) (by simp [frame,Frame.atR,item]) ho ?_ hop hty hz ?_ true _ _
  ·rw [show (frame f (b.atR a (.inRegion ops (i::rest)::k))).tmps=vals f a.tmps from rfl,dM];exact hw
  ·rw [eval_any (S:=S) (cs:=cs) (v:=v) hM.oH.fix hch,congrFun (Frame.eval_atR b a _) ch,hv];simp
 ·exact Et hM.oH.ok hcl
end
end Crew
end Go
end
end
section
section
namespace Go
namespace Crew
open Go.Conc Go.ConcN Go.Ren
section
variable [gm] {P:Program} {S:FuncId→Prop} {Z:Nat→Prop} {w0:World} {Post:Value→World→Prop}
theorem lU.close {b:Frame} {a:Act} {k:List Item} {cs:List Frame} {v:World} {ops:Array Oper} {i:Nat} {rest:List Nat} {o:Oper} (hbk:b.kind = .normal) (hbr:b.roundOf=none) (ho:ops[i]? = some o) (hw:Region.wanted o (yielded ops a.tmps)=true)
  {x:Operand} {ats:Array TypeId} (hop:o.op = .call { callee:=.builtin .close,args:=#[x],argTypes:=ats }) (hx:bG P (Nm S) x) {gC cap n:Nat} {us:List Value} (hv:a.eval x = .chan (some gC))
  (next:∀ l:List Value,l.Perm us→lU P S Z w0 Post n (iZ gC cap l) (b.atR (a.put o.dst (.tuple #[])) (.inRegion ops rest::k)) cs v):lU P S Z w0 Post n (IX gC cap us) (b.atR a (.inRegion ops (i::rest)::k)) cs v:=by
 intro hn Shr Hid og f gs w sl t q hM hR ⟨h1,h2,l,s,rz,tm,hp,hc⟩
 have next:=next l hp
 have hfin:=fin_at (b:=b) (a:=a) (rest:=rest) (k:=k) ho (.tuple #[])
 rw [←hfin] at next
 have hclo:aQ (.tuple #[])=true:=rfl
 have hok:=hM.oH.ok
 have hlt:=(Array.getElem?_eq_some_iff.1 hc).1
 have hev:(frame f (b.atR a (.inRegion ops (i::rest)::k))).eval x = .chan (some (f gC)):=by
  rw [eval_any (S:=S) (cs:=cs) (v:=v) hM.oH.fix hx,congrFun (Frame.eval_atR b a _) x,hv];simp
 have hres:∀ w1:World,(execOp (frame f (b.atR a (.inRegion ops (i::rest)::k))).eval o)=(do pure (.value (← Builtin.close_ ats o.type #[.chan (some (f gC))])):Sem Next):=fun w1=>by
  unfold execOp
  rw [hop]
  simp [resolve,hev,invoke,builtin]
 have hst:∀ d,stepG P true (aF f [] (Conc.G (b.atR a (.inRegion ops (i::rest)::k)) cs)) (w.at d) = .go (aF f [] (Conc.G ((b.atR a (.inRegion ops (i::rest)::k)).finish (.tuple #[])) cs)) { w.at d with heap:=(w.setChan (f gC) cap l.toArray true s rz tm).heap }
   (seen P b.fn ((#[].push ⟨.obj (f gC),false,true⟩).push ⟨.obj (f gC),true,true⟩)):=fun d=>by
  have hcd:(w.at d).heap[f gC]? = some (.chan cap l.toArray false s rz tm):=hc
  have e:=xx (fr:=b.atR a (.inRegion ops (i::rest)::k)) rfl hbr rfl f
  have hw':Region.wanted o (yielded ops (vals f a.tmps))=true:=by rw [dM];exact hw
  have hrun:=run_close_open (P:=P) (w:=w.at d) ats o.type hcd
  have hevs:=events_close_open (P:=P) (w:=w.at d) (es:=#[]) ats o.type hcd
  have h3:=stepG_value (P:=P) (main:=true) (cs:=stk f [] cs) (b:=frame f (b.atR a (.inRegion ops (i::rest)::k))) (k:=k.map (item f)) (a:={ tmps:=vals f (b.atR a (.inRegion ops (i::rest)::k)).tmps,defers:=(b.atR a (.inRegion ops (i::rest)::k)).defers.map (deferred f) }) (w:=w.at d) (rest:=rest) (ops:=ops) (i:=i) (v:=.tuple #[]) (w':={ w.at d with heap:=(w.at d).heap.setIfInBounds (f gC) (.chan cap l.toArray true s rz tm) }) ho hw' (show b.kind ≠ .early by rw [hbk];intro h;cases h)
   (by rw [nP,hres (w.at d)];simp [hrun])
  have hl:listed P (frame f (b.atR a (.inRegion ops (i::rest)::k))).fn { tmps:=vals f (b.atR a (.inRegion ops (i::rest)::k)).tmps,defers:=(b.atR a (.inRegion ops (i::rest)::k)).defers.map (deferred f) } o (w.at d)=seen P b.fn ((#[].push ⟨.obj (f gC),false,true⟩).push ⟨.obj (f gC),true,true⟩):=by
   unfold listed
   rw [nP,hres (w.at d)]
   simp only [Sem.events_bind,hevs,hrun,Result.evThen_ok,Sem.events_pure]
   rfl
  rw [hl,← e] at h3
  have e2:∀ (fr:Frame),aF f [] (Conc.G fr cs)=Conc.G (frame f fr) (stk f [] cs):=fun fr=>rfl
  rw [e2,e2,h3]
  have h4:=bg (f:=f) (b.atR a (.inRegion ops (i::rest)::k)) (.tuple #[]) hok.uy.frame.items
  rw [aH hclo] at h4
  rw [←h4]
  congr 2
  conv=>rhs;rw [e]
  rw [Frame.finish_at,ho]
  rfl
 have hes:∀ e∈seen P b.fn ((#[].push ⟨.obj (f gC),false,true⟩).push ⟨.obj (f gC),true,true⟩),(∀ x,(MemAct.ofEvent e).touch? = some x→GM Shr x.loc∧x.kind = .atomic)∧(MemAct.ofEvent e).low w.heap.size∧e.loc ≠ .mark .disable∧e.loc ≠ .mark .enable:=fun e he=>by
  refine Eu P b.fn (p:=fun e=>(∀ x,(MemAct.ofEvent e).touch? = some x→GM Shr x.loc∧x.kind = .atomic)∧(MemAct.ofEvent e).low w.heap.size∧e.loc ≠ .mark .disable∧e.loc ≠ .mark .enable) (fun e he=>?_) e he
  simp only [List.push_toArray,List.nil_append,List.cons_append,List.mem_toArray,List.mem_cons,List.not_mem_nil,or_false] at he
  rcases he with rfl | rfl
  ·refine ⟨fun x hx=>?_,hlt,by simp,by simp⟩
   simp only [MemAct.ofEvent,MemAct.touch?] at hx
   cases hx<;>exact ⟨⟨f gC,rfl,h1⟩,rfl⟩
  ·refine ⟨fun x hx=>?_,hlt,by simp,by simp⟩
   simp only [MemAct.ofEvent,MemAct.touch?] at hx
   cases hx<;>exact ⟨⟨f gC,rfl,h1⟩,rfl⟩
 obtain ⟨N,gs',w',sl',t',q',e1,e2,e3,e4⟩:=Mirror.turn hM sl hst (by simp [World.setChan]) (fun b' hb'=>by
   simp only [World.setChan]
   exact Array.getElem?_setIfInBounds_ne (show f gC≠b' from fun e=>hb' (e▸h1))) (fun b' c e fr h=>rZ hc b' c e fr h) ⟨(pO hc).chan,rfl,rfl⟩ hes (hok.put (uO hclo))
 exact (next hn Shr Hid og f gs' w' sl' t' q' e2 (hR.trans (zS (fun hz=>(hM.alone _ hz).2 h1) hc e3 e4)) ⟨h1,h2,s,rz,tm,by
   rw [e3]
   simp only [World.setChan]
   exact Array.getElem?_setIfInBounds_self_of_lt hlt⟩).after e1
end
end Crew
end Go
end
end
section
section
namespace Go
namespace Ev
open Go.Conc Go.Ren
variable {P:Program} {L N:List FuncId}
theorem uY {S:FuncId→Prop} {w:World} (h:Ren.Clean S w) {b:Nat} {c:Array Value} {e:TypeId} {fr:Nat × Nat} (hb:w.heap[b]? = some (.cells c e fr)):∀ x∈c,dA S x:=fun x hx H H' h' ha=>by
 have h1:=h H H' h' ha b _ hb
 have h2:@vals H h' c = @vals H' h' c:=by
  have:Obj.cells (@vals H h' c) e fr=Obj.cells (@vals H' h' c) e fr:=h1
  injection this
 obtain ⟨i,hi⟩:=Array.getElem?_of_mem hx
 have h3:=congrArg (fun z:Array Value=>z[i]?) h2
 simp only [vals,Array.getElem?_map,hi,Option.map_some,Option.some.injEq] at h3
 exact h3
structure GL (P:Program) (L:List FuncId) (w:World) (old:Option Nat) (d:List Value) (u:Value) (el:TypeId) (A c:Nat) (w':World) (r:List Value):Prop where
 row:w'.heap[A]? = some (.cells ⟨d++[u]++r⟩ el (0,0))
 cap:(d++[u]++r).length=c
 at_:old=some A∨A=w.heap.size
 size:w.heap.size≤w'.heap.size
 keep:∀ y,y<w.heap.size→old≠some y→w'.heap[y]? = w.heap[y]?
 dH:gJ w→gJ w'
 clean:Ren.Clean (· ∈ L) w→Ren.Clean (· ∈ L) w'
 stays:∀ (b:Nat) (o:Obj),w.heap[b]? = some o→aU o=true→w'.heap[b]? = some o
theorem yu {z x:Value} {n:Nat} (hz:flat z=true) (h1:z.cells.size=1) (hx:x∈Builtin.zeroCells z.cells n):dA (· ∈ L) x:=by
 unfold Builtin.zeroCells at hx
 rw [Array.mem_map] at hx
 obtain ⟨i,_,rfl⟩:=hx
 have:i % z.cells.size<z.cells.size:=by rw [h1];omega
 have e:z.cells[i % z.cells.size]! = z.cells[i % z.cells.size]:=getElem!_pos z.cells _ this
 rw [e]
 exact ru hz _ (by simp)
set_option maxHeartbeats 400000 in
theorem Nb {w:World} {t ty el:TypeId} {ti:TypeInfo} {z u:Value} {B cB:Nat} (ht:P.underlying t=some (.slice el)) (hi:P.info? el=some ti) (hz:zeroOf P el=some z) (h1:ti.size=1) (hz1:z.cells.size=1) (hbyte:ti.bytes<1000000)
  {el':TypeId} {fr:Nat × Nat} (hB:w.heap[B]? = some (.cells #[u] el' fr)):∃ A c w' r,(Builtin.append_ #[t,t] ty #[.slice none 0 0,.slice (some ⟨B,0,none⟩) 1 cB]).run P w = .ok (.slice (some ⟨A,0,none⟩) 1 c) w'∧GL P L w none [] u el A c w' r:=by
 have hcell:∀ j v,([u]:List Value)[j]? = some v→w.cell? ((⟨B,0,none⟩:Addr).add j)=some v:=fun j v hj=>by
  cases j with
  | zero=>simp at hj;subst hj;simp [Addr.add,World.cell?,hB]
  | succ j=>simp at hj
 have hzf:=(jG hz w).2
 have hrun:=run_append_nil (P:=P) w t ty el ti z ht hi (BO hz hi) ⟨B,0,none⟩ 1 cB [u] (by simp [h1]) hcell (by omega) (by omega) (by omega)
 have hsz:∀ n,(Builtin.zeroCells z.cells n).size=n:=fun n=>by rw [size_zeroCells,hz1,Nat.mul_one]
 have hge:=grownCap_ge w 1 0 el
 have hnew:(w.drew.alloc (.cells (#[u]++Builtin.zeroCells z.cells (grownCap w 1 0 el - 1)) el)).heap=w.heap.push (.cells (#[u]++Builtin.zeroCells z.cells (grownCap w 1 0 el - 1)) el):=rfl
 refine ⟨w.heap.size,_,_,(Builtin.zeroCells z.cells (grownCap w 1 0 el - 1)).toList,hrun,⟨?_,?_,.inr rfl,?_,fun y hy _=>?_,fun hn=>hn.push rfl rfl,fun hc=>?_,fun b o hb _=>?_⟩⟩
 ·show (w.heap.push (.cells (#[u]++Builtin.zeroCells z.cells (grownCap w 1 0 el - 1)) el))[w.heap.size]? = _
  simp
 ·simp [hsz];omega
 ·show w.heap.size≤(w.heap.push _).size
  simp
 ·show (w.heap.push _)[y]? = _
  rw [Array.getElem?_push,if_neg (by omega)]
 ·refine mZ (fun x hx=>?_) (Ren.aX hc rfl)
  rcases Array.mem_append.1 hx with hx | hx
  ·exact uY hc hB x hx
  ·exact yu hzf hz1 hx
 ·show (w.heap.push _)[b]? = _
  have:=(Array.getElem?_eq_some_iff.1 hb).1
  rw [Array.getElem?_push,if_neg (by omega)];exact hb
set_option maxHeartbeats 400000 in
theorem Na {w:World} {t ty el:TypeId} {ti:TypeInfo} {z u:Value} {A0 j c0 B cB:Nat} {d r0:List Value} (ht:P.underlying t=some (.slice el)) (hi:P.info? el=some ti) (hz:zeroOf P el=some z) (h1:ti.size=1) (hz1:z.cells.size=1) (hbyte:ti.bytes<1000000) (hj:j<1000000)
  (hA:w.heap[A0]? = some (.cells ⟨d++r0⟩ el (0,0))) (hd:d.length=j) (hc0:(d++r0).length=c0) (hne:B≠A0) (hu:single u=true)
  {el':TypeId} {fr:Nat × Nat} (hB:w.heap[B]? = some (.cells #[u] el' fr)):∃ A c w' r,(Builtin.append_ #[t,t] ty #[.slice (some ⟨A0,0,none⟩) j c0,.slice (some ⟨B,0,none⟩) 1 cB]).run P w = .ok (.slice (some ⟨A,0,none⟩) (j+1) c) w'∧GL P L w (some A0) d u el A c w' r:=by
 have hcell:∀ j v,([u]:List Value)[j]? = some v→w.cell? ((⟨B,0,none⟩:Addr).add j)=some v:=fun j v hj=>by
  cases j with
  | zero=>simp at hj;subst hj;simp [Addr.add,World.cell?,hB]
  | succ j=>simp at hj
 have holds:∀ i v,d[i]? = some v→w.cell? ((⟨A0,0,none⟩:Addr).add i)=some v:=fun i v hi=>by
  have hlt:i<d.length:=(List.getElem?_eq_some_iff.1 hi).1
  rw [add_plain (a:=⟨A0,0,none⟩) rfl]
  simp [World.cell?,hA,List.getElem?_append_left hlt,hi]
 have hzf:=(jG hz w).2
 have hsz:∀ n,(Builtin.zeroCells z.cells n).size=n:=fun n=>by rw [size_zeroCells,hz1,Nat.mul_one]
 have hltA:=(Array.getElem?_eq_some_iff.1 hA).1
 by_cases hroom:j+1≤c0
 ·
  obtain ⟨y,r,rfl⟩:∃ y r,r0=y::r:=by
   cases r0 with
   | nil=>simp at hc0;omega
   | cons y r=>exact ⟨y,r,rfl⟩
  have hcellj:w.cell? ⟨A0,j,none⟩=some y:=by
   simp [World.cell?,hA,← hd]
  have hfz:w.frozen? ⟨A0,j,none⟩=false:=by simp [World.frozen?,hA]
  have hadd:((⟨A0,0,none⟩:Addr).add (j*ti.size)).add 0=⟨A0,j,none⟩:=by
   rw [add_plain (a:=⟨A0,0,none⟩) rfl,add_plain rfl];simp [h1]
  have hst0:(store ⟨A0,j,none⟩ u).run P w = .ok () (w.setCell ⟨A0,j,none⟩ u):=by
   unfold store
   cases u with
   | agg _=>cases hu
   | tuple _=>cases hu
   | _=>simp [Sem.run,hcellj,hfz]
  have hf:=run_firstCells_some (P:=P) w ti.size 1 ⟨B,0,none⟩ 1 cB [u] (by simp [h1]) hcell
  have hheap:(w.setCell ⟨A0,j,none⟩ u).heap=w.heap.setIfInBounds A0 (.cells ⟨d++[u]++r⟩ el (0,0)):=by
   apply Array.ext_getElem?
   intro x
   rw [bT]
   by_cases hx:x=A0
   ·subst hx
    rw [if_pos rfl,hA,Array.getElem?_setIfInBounds_self_of_lt hltA]
    simp only [Option.map_some,Option.isSome_none,Bool.false_eq_true,if_false,Option.some.injEq,Obj.cells.injEq,and_true]
    apply Array.ext'
    simp [←hd]
   ·rw [if_neg hx,Array.getElem?_setIfInBounds_ne (Ne.symm hx)]
  refine ⟨A0,c0,w.setCell ⟨A0,j,none⟩ u,r,?_,⟨?_,?_,.inl rfl,?_,fun y' hy' hne'=>?_,fun hn=>?_,fun hc=>?_,fun b o hb hcb=>?_⟩⟩
  ·simp [Builtin.append_,run_underlying ht,Go.sizeOf,typeInfo,hi,Builtin.lenOf,hroom,hf,storeCells,hadd,hst0]
  ·rw [hheap,Array.getElem?_setIfInBounds_self_of_lt hltA]
  ·rw [←hc0];simp
  ·rw [hheap];simp
  ·rw [hheap,Array.getElem?_setIfInBounds_ne (fun e=>hne' (by rw [e]))]
  ·exact hn.set (x:=A0) (o:=.cells ⟨d++[u]++r⟩ el (0,0)) (by rw [hheap,Array.getElem?_setIfInBounds_self_of_lt hltA]) (fun y' hy'=>by rw [hheap,Array.getElem?_setIfInBounds_ne (Ne.symm hy')]) rfl
  ·exact rO hc (uY hc hB u (by simp))
  ·rw [hheap,Array.getElem?_setIfInBounds_ne (fun e=>by subst e;rw [hA] at hb;cases hb;cases hcb)];exact hb
 ·
  have hfull:c0<j+1:=by omega
  have hbound:(j+1)*ti.bytes≤140737488355328:=by
   have:(j+1)*ti.bytes≤1000000*1000000:=Nat.mul_le_mul (by omega) (by omega)
   omega
  have hrun:=run_append_grow (P:=P) w t ty el ti z ht hi (BO hz hi) ⟨A0,0,none⟩ j c0 d (by rw [hd,h1,Nat.mul_one]) holds ⟨B,0,none⟩ 1 cB [u] (by simp [h1]) hcell hfull (by omega) (growslice_fits hfull hbound)
  have hge:=grownCap_ge w (j+1) c0 el
  refine ⟨w.heap.size,_,_,(Builtin.zeroCells z.cells (grownCap w (j+1) c0 el - (j+1))).toList,hrun,⟨?_,?_,.inr rfl,?_,fun y hy _=>?_,fun hn=>hn.push rfl rfl,fun hc=>?_,fun b o hb _=>?_⟩⟩
  ·show (w.heap.push (.cells (d.toArray++[u].toArray++Builtin.zeroCells z.cells (grownCap w (j+1) c0 el - (j+1))) el))[w.heap.size]? = _
   simp
  ·simp [hsz,hd];omega
  ·show w.heap.size≤(w.heap.push _).size
   simp
  ·show (w.heap.push _)[y]? = _
   rw [Array.getElem?_push,if_neg (by omega)]
  ·refine mZ (fun x hx=>?_) (Ren.aX hc rfl)
   rcases Array.mem_append.1 hx with hx | hx
   ·rcases Array.mem_append.1 hx with hx | hx
    ·exact uY hc hA x (by
      have:x∈d:=by simpa using hx
      simp [this])
    ·exact uY hc hB x (by simpa using hx)
   ·exact yu hzf hz1 hx
  ·show (w.heap.push _)[b]? = _
   have:=(Array.getElem?_eq_some_iff.1 hb).1
   rw [Array.getElem?_push,if_neg (by omega)];exact hb
end Ev
end Go
end
end
section
section
namespace Go
namespace Ev
open Go.Conc Go.Ren
variable {P:Program} {L N:List FuncId} {K:Frame→List Frame→World→Prop}
theorem kH.build1 (hK:kH P L N K) {ops:Array Oper} {i:Nat} {rest:List Nat} {o:Oper} {b:Frame} {a:Act} {k:List Item} {cs:List Frame} {w:World} {t el:TypeId} {ti:TypeInfo} {z u:Value} {x:Operand} (hcs:qM cs) (ho:ops[i]? = some o) (hw:Region.wanted o (yielded ops a.tmps)=true)
  (hop:o.op = .buildSlice t 1 #[(0,x)]) (hb:gB P L o=true) (ht:P.underlying t=some (.slice el)) (hi:P.info? el=some ti) (hz:zeroOf P el=some z) (h1:ti.size=1) (hz1:z.cells.size=1) (hx:a.eval x=u) (hu:single u=true) (huc:dA (· ∈ L) u)
  (hk:∀ w':World,w'.heap=w.heap.push (.cells #[u] el (0,0))→K (b.atR (a.put o.dst (.slice (some ⟨w.heap.size,0,none⟩) 1 1)) (.inRegion ops rest::k)) cs w'):K (b.atR a (.inRegion ops (i::rest)::k)) cs w:=by
 refine hK.own (jb ho (by rw [hop];rfl) hb) fun tp=>?_
 obtain ⟨hzr,hzf⟩:=jG hz (wt w tp)
 have hcells:u.cells=#[u]:=by cases u<;>first | rfl | (cases hu;done)
 obtain ⟨z0,hz0⟩:∃ z0,z.cells.toList=[z0]:=by
  have:z.cells.toList.length=1:=by simpa using hz1
  match h:z.cells.toList,this with
  | [z0],_=>exact ⟨z0,rfl⟩
 have hfill:Instr.fill (fun i=>some (i*ti.size,ti.size)) ⟨dJ z.cells.toList 1⟩ [(0,u)]=some #[u]:=by
  rw [hz0,h1]
  simp [Instr.fill,dJ,hcells]
 have hrun:=run_buildSlice (P:=P) (ps:=#[(0,u)]) (wt w tp) ht hi hzr (by rw [h1];exact hz1) (by omega) (by rw [h1];decide) hfill
 have hr:(execOp a.eval o).run P (wt w tp) = .ok (.value (.slice (some ⟨w.heap.size,0,none⟩) 1 1)) ((wt w tp).alloc (.cells #[u] el)):=by
  unfold execOp
  rw [hop]
  simp only [List.map_toArray,List.map_cons,List.map_nil,hx]
  simp [hrun]
  rfl
 obtain ⟨es,hst⟩:=ku (b:=b) (k:=k) (cs:=cs) (rest:=rest) ho hw (fun c=>by rw [hop];simp) hr (.inl rfl)
 refine ⟨_,_,_,es,hst,trivial,hcs,fun hcl=>mZ (fun y hy=>?_) (Ren.aX hcl rfl),fun c o1 h1 h2 o2 h3=>?_,hk _ rfl⟩
 ·have:y=u:=by simpa using hy
  rw [this];exact huc
 ·have hlt:=(Array.getElem?_eq_some_iff.1 h1).1
  have h4:(w.heap.push (.cells #[u] el))[c]? = some o2:=h3
  rw [Array.getElem?_push,if_neg (by omega),h1] at h4
  rw [←Option.some.inj h4];exact h2
theorem kH.append (hK:kH P L N K) {ops:Array Oper} {i:Nat} {rest:List Nat} {o:Oper} {b:Frame} {a:Act} {k:List Item} {cs:List Frame} {w:World} {t:TypeId} {x y:Operand} (hcs:qM cs) (ho:ops[i]? = some o) (hw:Region.wanted o (yielded ops a.tmps)=true)
  (hop:o.op = .call { callee:=.builtin .append,args:=#[x,y],argTypes:=#[t,t] }) (hb:gB P L o=true) {sx sy:Value} (hx:a.eval x=sx) (hy:a.eval y=sy)
  (hk:∀ tp,∃ v' w',(Builtin.append_ #[t,t] o.type #[sx,sy]).run P (wt w tp) = .ok v' w'∧(Ren.Clean (· ∈ L) w→Ren.Clean (· ∈ L) w')∧dG w w'∧K (b.atR (a.put o.dst v') (.inRegion ops rest::k)) cs w'):K (b.atR a (.inRegion ops (i::rest)::k)) cs w:=by
 have hev:(b.atR a (.inRegion ops (i::rest)::k)).eval=a.eval:=Frame.eval_atR b a _
 have hres:∀ ev:Operand→Value,resolve ev { callee:=.builtin .append,args:=#[x,y],argTypes:=#[t,t] } o.type=pure { target:=.builtin .append #[t,t] o.type ((#[x,y]:Array Operand).map fun | .const _=>true | _=>false),args:=(#[x,y]:Array Operand).map ev }:=fun ev=>rfl
 refine hK.own (Crew.II (o:=o) rfl rfl ho hop hb (fun w d g h1 h2=>?_) ⟨_,hres _⟩) fun tp=>?_
 ·rw [hres] at h1
  have h3:=congrArg (fun s:Sem Deferred=>s.run P w) h1
  simp only [Sem.run_pure] at h3
  cases h3
  cases h2
 ·obtain ⟨v',w',h1,h2,h3,h4⟩:=hk tp
  have hr:(execOp a.eval o).run P (wt w tp) = .ok (.value v') w':=by
   unfold execOp
   rw [hop]
   simp only [hres,Sem.run_bind,Sem.run_pure,Result.andThen,invoke,List.map_toArray,List.map_cons,List.map_nil,hx,hy]
   simp only [builtin,Sem.run_bind,h1,Result.andThen,Sem.run_pure]
  obtain ⟨es,hst⟩:=ku (b:=b) (k:=k) (cs:=cs) (rest:=rest) ho hw (fun c=>by rw [hop];simp) hr (.inl rfl)
  exact ⟨_,_,_,es,hst,trivial,hcs,h2,h3,h4⟩
end Ev
end Go
end
end
section
section
namespace Go
namespace Ev
open Go.Conc Go.Ren
variable {P:Program} {L N:List FuncId} {K:Frame→List Frame→World→Prop}
def KA:T Value→T Value→Bool
 | .nil,_=>true
 | .node v l r,t=>(match v with
  | none=>true
  | some x=>match t.val? with
   | some y=>uz x y
   | none=>false)&&KA l t.left&&KA r t.right
theorem I5:∀ {s t:T Value},KA s t=true→∀ i v,s.get i=some v→t.get i=some v
 | .nil,_,_,i,v,h=>by cases h
 | .node x l r,t,e,i,v,h=>by
  simp only [KA,Bool.and_eq_true] at e
  obtain ⟨⟨e1,e2⟩,e3⟩:=e
  cases i with
  | zero=>
   have h':x=some v:=h
   subst h'
   rw [T.qG]
   simp only at e1
   split at e1
   ·rename_i y hy;rw [hy,iU e1]
   ·cases e1
  | succ n=>
   rcases Nat.mod_two_eq_zero_or_one n with hn | hn
   ·rw [T.jB _ _ hn] at h ⊢
    exact I5 e2 _ _ h
   ·rw [T.lJ _ _ hn] at h ⊢
    exact I5 e3 _ _ h
theorem TR.sub {ρ:aY} {n:Nat} {s t:T Value} {a:Array Value} (h:TR ρ n t a) (e:KA s t=true):TR ρ n s a:=⟨h.size,fun i v hv=>h.get i v (I5 e i v hv)⟩
theorem TR.sW {ρ:aY} {n:Nat} {t:T Value} {a:Act} (h:TR ρ n t a.tmps) {d:Nat} (hd:t.get d=none) (v:Value):TR ρ n t (a.put (some d) v).tmps:=by
 refine ⟨by simp [Act.put,h.size],fun i u hu=>?_⟩
 obtain ⟨v',h1,h2⟩:=h.get i u hu
 refine ⟨v',?_,h2⟩
 simp only [Act.put]
 rw [Array.getElem?_setIfInBounds_ne (fun e=>by subst e;rw [hd] at hu;cases hu)];exact h1
theorem kH.YD (hK:kH P L N K) {ops:Array Oper} {i:Nat} {rest:List Nat} {o:Oper} {b:Frame} {a:Act} {k:List Item} {cs:List Frame} {w:World} {x:Operand} (hcs:qM cs) (ho:ops[i]? = some o) (hw:Region.wanted o (yielded ops a.tmps)=true) (hop:o.op = .move x∨o.op = .assign x) (hb:gB P L o=true)
  (hk:∀ w':World,w'.heap=w.heap→K (b.atR (a.put o.dst (a.eval x)) (.inRegion ops rest::k)) cs w'):K (b.atR a (.inRegion ops (i::rest)::k)) cs w:=by
 refine hK.own (jb ho (by rcases hop with h | h<;>rw [h]<;>rfl) hb) fun tp=>?_
 have hr:(execOp a.eval o).run P (wt w tp) = .ok (.value (a.eval x)) (wt w tp):=by
  unfold execOp
  rcases hop with h | h<;>rw [h]<;>rfl
 obtain ⟨es,hst⟩:=ku (b:=b) (k:=k) (cs:=cs) (rest:=rest) ho hw (fun c=>by rcases hop with h | h<;>rw [h]<;>simp) hr (.inl rfl)
 exact ⟨_,_,_,es,hst,trivial,hcs,fun hcl=>Ren.aX hcl rfl,.of rfl,hk _ rfl⟩
end Ev
namespace Crew
open Go.Conc Go.ConcN Go.Ren
structure Gz where
 i14:Nat
 i15:Nat
 i16:Nat
 MP:Nat
 Yi:Nat
 uM:Oper
 uN:Oper
 ET:Array Oper
 RH:Oper
 o32:Oper
 UA:Oper
 Tm:Oper
 Oo:Oper
 RD:Oper
 c29:Operand
 fL:FuncId
 d9:Nat
 d28:Nat
 d31:Nat
 d33:Nat
 d34:Nat
 d35:Nat
 x32:Operand
 ML:Operand
 TI:TypeId
 MB:TypeId
 dch:ChanDir
 QD:Value
 ts:TypeId
 el:TypeId
 ti:TypeInfo
 z:Value
 YS:Array TypeId
def Gz.body (c:Gz):Code:=.seq (.region c.i14 #[c.uM,c.uN] false) (.seq (.cond c.c29 .skip (.exit c.MP)) (.block c.Yi (.seq (.region c.i15 c.ET false) (.region c.i16 #[c.RH,c.o32,c.UA,c.Tm,c.Oo,c.RD] false))))
structure Gz.OK (P:Program) (L N:List FuncId) (c:Gz):Prop where
 rop:c.uM.op = .recv c.TI c.ML true
 rg:c.uM.guard=none
 rd:c.uM.dst=some c.d28
 TI:P.underlying c.TI=some (.chan c.dch c.MB)
 QD:Ev.zeroOf P c.MB=some c.QD
 zcl:aQ c.QD=true
 Yf:jR P (L++N) c.ML=true
 op31:c.RH.op = .move (.tmp c.d9)∨c.RH.op = .assign (.tmp c.d9)
 g31:c.RH.guard=none
 d31:c.RH.dst=some c.d31
 b31:gB P L c.RH=true
 op33:c.UA.op = .call { callee:=.value (.func c.fL),args:=#[c.x32],argTypes:=c.YS }
 g33:c.UA.guard=none
 d33:c.UA.dst=some c.d33
 b33:gB P L c.UA=true
 fLL:c.fL∈L
 fLN:c.fL∉N
 op34:c.Tm.op = .buildSlice c.ts 1 #[(0,.tmp c.d33)]
 g34:c.Tm.guard=none
 d34:c.Tm.dst=some c.d34
 b34:gB P L c.Tm=true
 ts:P.underlying c.ts=some (.slice c.el)
 ti:P.info? c.el=some c.ti
 ti1:c.ti.size=1
 tib:c.ti.bytes<1000000
 z:Ev.zeroOf P c.el=some c.z
 z1:c.z.cells.size=1
 op35:c.Oo.op = .call { callee:=.builtin .append,args:=#[.tmp c.d31,.tmp c.d34],argTypes:=#[c.ts,c.ts] }
 g35:c.Oo.guard=none
 d35:c.Oo.dst=some c.d35
 b35:gB P L c.Oo=true
 op36:c.RD.op = .move (.tmp c.d35)∨c.RD.op = .assign (.tmp c.d35)
 g36:c.RD.guard=none
 d36:c.RD.dst=some c.d9
 b36:gB P L c.RD=true
 l31:c.d31<Ev.top
 l28:c.d28<Ev.top
 n9:c.d31≠c.d33∧c.d31≠c.d34∧c.d33≠c.d34∧c.d31≠c.d35∧c.d9≠c.d28
 k14:c.uN.dst≠some c.d9
 k15:∀ o∈c.ET.toList,o.dst≠some c.d9
 k32:c.o32.dst≠some c.d31
def Gz.nX (P:Program) (L:List FuncId) (c:Gz) (n:Nat) (tL:Ev.T Value) (u:Value):Bool:=
 match Ev.jU P L n [c.uM,c.uN] [c.uN] (Ev.T.put Ev.T.deep tL c.d28 (some (.tuple ⟨[u,.bool true]⟩))) with
 | some t2=>match Ev.aG t2 c.c29,Ev.jU P L n c.ET.toList c.ET.toList t2 with
  | some (.bool true),some t3=>match Ev.jU P L n [c.RH,c.o32,c.UA,c.Tm,c.Oo,c.RD] [c.o32] (Ev.strike t3 c.d31) with
   | some t4=>(match Ev.opts (Ev.aG t4) [c.x32] with | some us=>Ev.lK us [u] | none=>false)&&Ev.KA tL t4
   | none=>false
  | _,_=>false
 | none=>false
def Gz.free (c:Gz) (n:Nat) (tL:Ev.T Value):Bool:=[c.d9,c.d28,c.d31,c.d33,c.d34,c.d35].all fun d=>(match tL.get d with | none=>true | some _=>false)&&Nat.blt d n
def BL (inv:Ev.Iv) (fL:FuncId) (h:Ev.H) (u:Value) (ints:List Value) (iT:TypeId):Bool:=
 match inv (.func fL) [u] ⟨h.t,h.next,[]⟩ with
 | some (.slice (some ⟨nm,0,none⟩) len cap,h')=>(match h'.get nm with | some (.cells c t (some 1))=>Ev.lK c ints&&Nat.beq t iT | _=>false)&&Nat.beq len ints.length&&Nat.beq cap Ev.soft&&Ev.ig ints&&(h'.log.all fun b=>Nat.ble h.next b&&Nat.blt b h'.next)&&Nat.ble h.next nm&&Nat.blt nm h'.next
 | _=>false
end Crew
end Go
end
end
section
section
namespace Go
namespace Crew
open Go.Conc Go.ConcN Go.Ren
abbrev Lay:=Nat × Nat × List Value
structure DD (iT elT:TypeId) (ints:Value→List Value) (v0 v:World) (p:List Value) (bs:List Lay) (sv:Value):Prop where
 len:bs.length=p.length
 rows:∀ (i:Nat) (u:Value) (b:Lay),p[i]? = some u→bs[i]? = some b→v.heap[b.1]? = some (.cells ⟨ints u++b.2.2⟩ iT (0,0))∧(ints u++b.2.2).length=b.2.1∧b.2.1≤maxLen∧v0.heap.size≤b.1
 nd:(bs.map (·.1)).Nodup
 row:(p=[]∧sv = .slice none 0 0) ∨ ∃ A c r,sv = .slice (some ⟨A,0,none⟩) p.length c∧v.heap[A]? = some (.cells ⟨List.zipWith (fun u (b:Lay)=>Value.slice (some ⟨b.1,0,none⟩) (ints u).length b.2.1) p bs++r⟩ elT (0,0)) ∧
  (List.zipWith (fun u (b:Lay)=>Value.slice (some ⟨b.1,0,none⟩) (ints u).length b.2.1) p bs++r).length=c∧v0.heap.size≤A∧A∉bs.map (·.1)
 old:∀ x,x<v0.heap.size→v.heap[x]? = v0.heap[x]?
 size:v0.heap.size≤v.heap.size
 dH:Ev.gJ v
theorem DD.same {iT elT:TypeId} {ints:Value→List Value} {v0 v v':World} {p:List Value} {bs:List Lay} {sv:Value} (h:DD iT elT ints v0 v p bs sv) (e:v'.heap=v.heap):DD iT elT ints v0 v' p bs sv:=
 ⟨h.len,fun i u b h1 h2=>by rw [e];exact h.rows i u b h1 h2,h.nd,h.row.imp id fun ⟨A,c,r,h1,h2,h3⟩=>⟨A,c,r,h1,by rw [e];exact h2,h3⟩,fun x hx=>by rw [e];exact h.old x hx,by rw [e];exact h.size,h.dH.same e⟩
theorem DD.keep {iT elT:TypeId} {ints:Value→List Value} {v0 v v':World} {p:List Value} {bs:List Lay} {sv:Value} (h:DD iT elT ints v0 v p bs sv) (hk:∀ (x:Nat) (o:Obj),v.heap[x]? = some o→v'.heap[x]? = some o) (hs:v.heap.size≤v'.heap.size) (hn:Ev.gJ v'):DD iT elT ints v0 v' p bs sv:=by
 refine ⟨h.len,fun i u b h1 h2=>?_,h.nd,h.row.imp id fun ⟨A,c,r,h1,h2,h3⟩=>⟨A,c,r,h1,hk _ _ h2,h3⟩,fun x hx=>?_,Nat.le_trans h.size hs,hn⟩
 ·obtain ⟨q1,q2⟩:=h.rows i u b h1 h2
  exact ⟨hk _ _ q1,q2⟩
 ·rw [←h.old x hx]
  have hlt:x<v.heap.size:=Nat.lt_of_lt_of_le hx h.size
  rw [hk x _ (Array.getElem?_eq_getElem hlt),Array.getElem?_eq_getElem hlt]
theorem DD.low {iT elT:TypeId} {ints:Value→List Value} {v0 v:World} {p:List Value} {bs:List Lay} {sv:Value} (h:DD iT elT ints v0 v p bs sv) {x:Nat} (hx:x∈bs.map (·.1)):x<v.heap.size:=by
 obtain ⟨b,hb,rfl⟩:=List.mem_map.1 hx
 obtain ⟨i,hi⟩:=List.getElem?_of_mem hb
 have hlt:i<p.length:=by rw [←h.len];exact (List.getElem?_eq_some_iff.1 hi).1
 exact (Array.getElem?_eq_some_iff.1 (h.rows i _ b (List.getElem?_eq_getElem hlt) hi).1).1
end Crew
namespace Ev
open Go.Conc Go.Ren
variable {P:Program} {L N:List FuncId} {K:Frame→List Frame→World→Prop}
theorem Rt (a:Act) {d:Option Tmp} {j:Nat} (h:d≠some j) (v:Value):(a.put d v).tmps[j]? = a.tmps[j]?:=by
 cases d with
 | none=>rfl
 | some d=>exact pq a (fun e=>h (by rw [e])) v
theorem kH.BF (hK:kH P L N K) {ρ:Ev.aY} {n:Nat} {ops:Array Oper} {rest:List Nat} {b:Frame} {k:List Item} {cs:List Frame} (hcs:qM cs):∀ {l:List Oper} {i:Nat} {t t':T Value},(∀ j,j<l.length→ops[i+j]? = l[j]?)→jU P L n ops.toList l t=some t' →
  ∀ {a:Act} {w:World},TR ρ n t a.tmps→(∀ a' w',a'.defers=a.defers→w'.heap=w.heap→TR ρ n t' a'.tmps→(∀ j,(∀ o∈l,o.dst≠some j)→a'.tmps[j]? = a.tmps[j]?)→K (b.atR a' (.inRegion ops rest::k)) cs w')→K (b.atR a (.inRegion ops (List.range' i l.length++rest)::k)) cs w
 | [],i,t,t',hl,e,a,w,ht,hk=>by
  cases e
  exact hk a w rfl rfl ht fun _ _=>rfl
 | o::l,i,t,t',hl,e,a,w,ht,hk=>by
  have ho:ops[i]? = some o:=by simpa using hl 0 (by simp)
  have hl':∀ j,j<l.length→ops[i+1+j]? = l[j]?:=fun j hj=>by
   have:=hl (j+1) (by simp;omega)
   rw [show i+(j+1)=i+1+j by omega] at this
   simpa using this
  have hrange:List.range' i (o::l).length++rest=i::(List.range' (i+1) l.length++rest):=by simp [List.range'_succ]
  rw [hrange]
  simp only [jU] at e
  split at e
  ·rename_i hw hc
   simp only [Bool.and_eq_true] at hc
   split at e
   ·rename_i v e1
    split at e
    ·rename_i t1 e2
     have hcc:=hc.2
     unfold Pn at hcc
     simp only [Bool.and_eq_true,Bool.not_eq_true'] at hcc
     refine hK.own (jb ho hcc.1.2 hcc.1.1) fun tp=>?_
     obtain ⟨v',q1,q2⟩:=pure_ok (o:=o) (dh ht) e1 (wt w tp)
     obtain ⟨es,hst⟩:=ku (b:=b) (k:=k) (cs:=cs) (rest:=List.range' (i+1) l.length++rest) ho (dP ht hw) (gq e1) q1 (.inl rfl)
     refine ⟨_,_,_,es,hst,trivial,hcs,fun hcl=>Ren.aX hcl rfl,.of rfl,?_⟩
     exact kH.BF hK hcs hl' e (ht.put e2 q2) fun a2 w2 d1 d2 d3 d4=>hk a2 w2 (by rw [d1,put_defers]) (by rw [d2];rfl) d3 fun j hj=>by
      rw [d4 j (fun o ho=>hj o (List.mem_cons_of_mem _ ho)),Rt a (hj o (List.mem_cons_self ..))]
    ·cases e
   ·cases e
  ·cases e
end Ev
namespace Crew
open Go.Conc Go.ConcN Go.Ren
section
variable {P:Program} {L N:List FuncId} {K:Frame→List Frame→World→Prop}
theorem ND (hK:Ev.kH P L N K) {ρ:Ev.aY} {n id:Nat} {ops:Array Oper} {b:Frame} {k:List Item} {cs:List Frame} (hcs:Ev.qM cs) {t t':Ev.T Value} (e:Ev.jU P L n ops.toList ops.toList t=some t') {a:Act} {v:World} (ht:Ev.TR ρ n t a.tmps)
  (hk:∀ a' v',a'.defers=a.defers→v'.heap=v.heap→Ev.TR ρ n t' a'.tmps→(∀ j,(∀ o∈ops.toList,o.dst≠some j)→a'.tmps[j]? = a.tmps[j]?)→K (b.atR a' k) cs v'):K (b.atR a (.code (.region id ops false)::k)) cs v:=by
 refine gp hK hcs fun v1 h1=>?_
 have hrng:List.range ops.size=List.range' 0 ops.toList.length++[]:=by rw [List.append_nil,List.range_eq_range'];simp
 rw [hrng]
 refine hK.BF (rest:=[]) hcs (l:=ops.toList) (i:=0) (fun j _=>by simp) e ht fun a' v' d1 d2 d3 d4=>?_
 exact lg hK hcs fun v'' d5=>hk a' v'' d1 (by rw [d5,d2,h1]) d3 d4
end
end Crew
end Go
end
end
