/- Of the proof of BearingTurned: Kys1 Kys2 Kys3 Tab1 Srt2 Srt3 -/
import Derived.Maps.RangeRun
import Derived.Test.YtlpjchhijenlbaaGreatA10
set_option linter.unusedSectionVars false
set_option linter.unusedVariables false
set_option linter.unusedSimpArgs false
section
section
namespace Go
namespace Ev
open Go.ChangeMaps (setBlock)
variable {P:Program} {inv:Iv}
theorem NL {ρ ρ':aY} {h h':H} {w w':World} (s:Stp ρ h w ρ' h' w') {b:Nat} (h1:h.get b=none) (h2:b<h.next) (h3:ρ b ≠ .aT):ρ' b=ρ b:=by
 obtain ⟨l,_,_,_,q1,_,q2⟩:=s.log
 refine q2 b (fun hb=>?_) h3
 rcases q1 b hb with h4 | h4
 ·rw [h1] at h4;cases h4
 ·omega
theorem Ub {ρ:aY} {h:H} {w w':World} {o:Obj} (hr:HR ρ h w) (hu:ρ h.next = .aT) (hw:w'.heap=w.heap.push o) (ho:RJ o=false) :
  Stp ρ h w (upd ρ h.next (.at_ w.heap.size 0)) ⟨h.t,h.next+1,h.log⟩ w'∧HR (upd ρ h.next (.at_ w.heap.size 0)) ⟨h.t,h.next+1,h.log⟩ w':=by
 have hle:Le ρ (upd ρ h.next (.at_ w.heap.size 0)):=mP hu _
 have hkn:∀ b o,h.get b=some o→b≠h.next:=fun b o hb e=>by
  subst e
  obtain ⟨x,k,o',h1,_⟩:=hr.ob _ o hb
  rw [hu] at h1;cases h1
 have hkeep:∀ (x:Nat) (o:Obj),w.heap[x]? = some o→w'.heap[x]? = some o:=fun x o hx=>by
  have:=(Array.getElem?_eq_some_iff.1 hx).1
  rw [hw,Array.getElem?_push,if_neg (by omega)];exact hx
 refine ⟨⟨hle,Nat.le_succ _,fun b hb hx=>?_,by rw [hw];simp,[],rfl,fun x o hx _=>hkeep x o hx,fun b x k hb=>?_,fun _ h=>by simp at h,fun _ _=>rfl,fun b _ hb=>?_⟩,hr.dH.push hw ho,fun b o hb=>?_,fun b c x k l hb hc hx hy=>?_⟩
 ·rw [aJ]
  ·exact hb
  ·rintro rfl
   rcases hx with hx | hx
   ·exact absurd hx (Nat.lt_irrefl _)
   ·exact absurd hx (Nat.not_succ_le_self _)
 ·by_cases e:b=h.next
  ·subst e
   rw [upd_same] at hb
   cases hb
   exact .inr ⟨hu,.inl (Nat.le_refl _)⟩
  ·rw [aJ _ _ e] at hb;exact .inl hb
 ·rw [aJ]
  rintro rfl
  exact hb hu
 ·obtain ⟨x,k,o',h1,h2,h3⟩:=hr.ob b o hb
  exact ⟨x,k,o',by rw [aJ _ _ (hkn b o hb)];exact h1,hkeep _ _ h2,h3.mono hle⟩
 ·obtain ⟨o1,h1⟩:=Option.isSome_iff_exists.1 hb
  obtain ⟨o2,h2⟩:=Option.isSome_iff_exists.1 hc
  rw [aJ _ _ (hkn b o1 h1)] at hx
  rw [aJ _ _ (hkn c o2 h2)] at hy
  exact hr.inj b c x k l hb hc hx hy
structure vC (ρ:aY) (h:H) (nI r:Nat) (o:Obj) (w:World):Prop where
 name:ρ nI = .at_ r 0
 apart:∀ b k,(h.get b).isSome=true→ρ b ≠ .at_ r k
 obj:w.heap[r]? = some o
theorem vC.step {ρ ρ':aY} {h h':H} {w w':World} {nI r:Nat} {o:Obj} (L:vC ρ h nI r o w) (s:Stp ρ h w ρ' h' w') (hu:gK ρ h.next h'.next) (h1:h.get nI=none) (h2:nI<h.next):vC ρ' h' nI r o w':=by
 have hne:ρ nI ≠ .aT:=by rw [L.name];exact fun h=>by cases h
 have hn:=NL s h1 h2 hne
 obtain ⟨l,_,f,g,q1,q2,_⟩:=s.log
 have hnl:∀ b k,b∈l→ρ b ≠ .at_ r k:=fun b k hb e=>by
  rcases q1 b hb with h4 | h4
  ·exact L.apart b k h4 e
  ·rw [hu b h4.1 h4.2] at e;cases e
 refine ⟨hn.trans L.name,fun b k hk hb=>?_,f r o L.obj hnl⟩
 rcases g b r k hb with h3 | ⟨_,h3 | ⟨c,m,hc,hm⟩⟩
 ·by_cases hbl:b∈l
  ·exact hnl b k hbl h3
  ·rw [q2 b hbl] at hk
   exact L.apart b k hk h3
 ·have:=(Array.getElem?_eq_some_iff.1 L.obj).1;omega
 ·exact absurd hm (hnl c m hc)
theorem vC.less {ρ:aY} {h h':H} {w:World} {nI r:Nat} {o:Obj} (L:vC ρ h nI r o w) (hk:∀ b,(h'.get b).isSome=true→(h.get b).isSome=true):vC ρ h' nI r o w:=⟨L.name,fun b k hb=>L.apart b k (hk b hb),L.obj⟩
structure dw where
 fn:Func
 i0:Nat
 oL:Oper
 oR:Oper
 ry:Nat
 i1:Nat
 oN:Oper
 iI:List Oper
 c7:Operand
 lM:Nat
 i2:Nat
 oE:Oper
 ops2:List Oper
 cR:Code
 d4:Nat
 d5:Nat
 d6:Nat
 d8:Nat
 tM:TypeId
 kT:TypeId
 vT:TypeId
def dw.inner (c:dw):Code:=.seq (.region c.i2 ⟨c.oE::c.ops2⟩ false) c.cR
def dw.lb (c:dw):Code:=.seq (.region c.i1 ⟨c.oN::c.iI⟩ false) (.seq (.cond c.c7 .skip (.exit c.ry)) (.block c.lM c.inner))
def dw.body (c:dw):Code:=.seq (.region c.i0 #[c.oL,c.oR] false) (.block c.ry (.loop c.lb))
structure dw.OK (P:Program) (c:dw) (f:FuncId):Prop where
 ff:P.funcs[f]? = some c.fn
 fb:c.fn.body=some c.body
 fname:(c.fn.name == "runtime.NumGoroutine")=false
 gR:c.oR.guard=none
 dR:c.oR.dst=some c.d5
 opR:c.oR.op = .range c.tM (.tmp c.d4)
 und:P.underlying c.tM=some (.map c.kT c.vT)
 gN:c.oN.guard=none
 dN:c.oN.dst=some c.d6
 opN:c.oN.op = .next (.tmp c.d5) false
 gE:c.oE.guard=none
 dE:c.oE.dst=some c.d8
 opE:c.oE.op = .entry (.tmp c.d5)
def chunks (z:Nat):Nat→List Value→List (List Value)
 | 0,_=>[]
 | k+1,l=>match l with
  | []=>[]
  | _=>match cut l 0 z with
   | some a=>a::chunks z k (l.drop z)
   | none=>[l]
def WX:Ob→Ob
 | .cells c e (some z)=>.lq (chunks z c.length c) e z
 | o=>o
def dedup:List Nat→List Nat→List Nat
 | [],acc=>acc
 | b::l,acc=>match acc.any fun c=>Nat.beq c b with
  | true=>dedup l acc
  | false=>dedup l (b::acc)
def nodupB:List Nat→Bool
 | []=>true
 | b::l=>(l.all fun c=>!Nat.beq c b)&&nodupB l
theorem tq:∀ {l:List Nat},nodupB l=true→l.Nodup
 | [],_=>List.nodup_nil
 | b::l,h=>by
  simp only [nodupB,Bool.and_eq_true] at h
  refine List.nodup_cons.2 ⟨fun hb=>?_,tq h.2⟩
  have:=List.all_eq_true.1 h.1 b hb
  simp at this
section
variable (P:Program) (inv:Iv) (c:dw) (f:FuncId) (n:Nat) (h:H)
def dw.ptr (h:H):Value:=.pointer (some ⟨h.next,0,none⟩)
def dw.Lp (s:Cst) (e:MapEntry):Option (T Value × H):=
 match jl s.t n (some c.d6) (.tuple ⟨[.bool true,e.key,e.val]⟩) with
 | some tN=>match jm P inv RN n (c.oN::c.iI) c.iI tN (s.h0 h) with
  | some (t2,h2)=>match h2.log,aG t2 c.c7 with
   | [],some (.bool true)=>match jl t2 n (some c.d8) (.tuple ⟨[e.key,e.val]⟩),(match t2.get c.d5 with | some v=>uz v (dw.ptr h) | none=>false) with
    | some t3,true=>match jm P inv RN n (c.oE::c.ops2) c.ops2 t3 h2 with
     | some (t4,h4)=>match fQ P inv f n none c.cR ⟨t4,h4,[]⟩ with
      | some (.normal,⟨t5,h5,[]⟩)=>some (t5,h5)
      | _=>none
     | none=>none
    | _,_=>none
   | _,_=>none
  | none=>none
 | none=>none
def dw.VE (s:Cst):Option (T Value × H):=
 match jl s.t n (some c.d6) (.tuple ⟨[.bool false]⟩) with
 | some tN=>match jm P inv RN n (c.oN::c.iI) c.iI tN (s.h0 h) with
  | some (t2,h2)=>match aG t2 c.c7 with
   | some (.bool false)=>some (t2,h2)
   | _=>none
  | none=>none
 | none=>none
def dw.has (S:List Nat) (b:Nat):Bool:=S.any fun c=>Nat.beq c b
def dw.yx (S:List Nat) (s:Cst):List MapEntry→Option (List (List Nat × T Value × H))
 | []=>some []
 | e::es=>match dw.has S e.born with
  | true=>dw.yx S s es
  | false=>match dw.Lp P inv c f n h s e,dw.yx S s es with
   | some (t,h'),some r=>some ((S++[e.born],t,h')::r)
   | _,_=>none
def dw.outs (es:List MapEntry):List (List Nat × Cst)→Option (List (List Nat × T Value × H))
 | []=>some []
 | (S,s)::l=>match es.all (fun e=>dw.has S e.born),dw.yx P inv c f n h S s es,dw.outs es l with
  | false,some a,some b=>some (a++b)
  | _,_,_=>none
def dw.canon (h:H) (TB:List Nat) (t0:T Value) (t5:T Value) (h5:H):Cst:=
 let a:=TB.filterMap fun b=>match h5.get b with | some o=>some (b,o) | none=>none
 let ns:=(dedup (a.flatMap fun p=>UJ p.2) []).filter fun b=>Nat.blt h.next b
 ⟨a++ns.filterMap fun b=>match h5.get b with | some o=>some (b,WX o) | none=>none,h5.next,T.meet t5 t0⟩
def dw.fresh (TB:List Nat) (t0:T Value):List (List Nat × T Value × H)→List (List Nat × Cst)→List (List Nat × Cst)
 | [],acc=>acc
 | (S,t,h')::l,acc=>match acc.any (fun p=>vJ Nat.beq p.1 S) with
  | true=>dw.fresh TB t0 l acc
  | false=>dw.fresh TB t0 l ((S,dw.canon h TB t0 t h')::acc)
def dw.Ql (TB:List Nat) (s:Cst):Bool:=s.okB h TB&&Nat.blt h.next s.nx&&(s.ms.all fun p=>!Nat.beq p.1 h.next)&&(match s.t.get c.d5 with | some v=>uz v (dw.ptr h) | none=>false)
def dw.Fg (TB:List Nat) (os:List (List Nat × T Value × H)) (sts':List (List Nat × Cst)):Option (List (List Nat × Cst)):=
 match (sts'.all fun p=>dw.Ql c h TB p.2),(os.all fun y=>sts'.any fun p=>vJ Nat.beq p.1 y.1&&je uz y.2.1 p.2.t&&p.2.yG Oz h TB y.2.2) with
 | true,true=>some sts'
 | _,_=>none
def dw.LQ (es:List MapEntry) (TB:List Nat) (t0:T Value):Nat→List (List Nat × Cst)→Option Cst
 | 0,sts=>match sts with
  | [(S,s)]=>match es.all fun e=>dw.has S e.born with
   | true=>some s
   | false=>none
  | _=>none
 | k+1,sts=>match dw.outs P inv c f n h es sts with
  | some os=>match dw.Fg c h TB os (dw.fresh h TB t0 os []) with
   | some sts'=>dw.LQ es TB t0 k sts'
   | none=>none
  | none=>none
def dw.st0 (TB:List Nat) (t0:T Value):Cst:=⟨TB.filterMap fun b=>match h.get b with | some o=>some (b,o) | none=>none,h.next+1,t0⟩
end
end Ev
end Go
end
end
section
section
namespace Go
namespace Ev
open Go.ChangeMaps (setBlock)
variable {P:Program} {inv:Iv}
theorem Cst.At.touch {s:Cst} {ρ0 ρ:aY} {h0:H} {w0 w w1:World} {TB:List Nat} (A:s.At ρ0 h0 w0 TB ρ w) {r:Nat} (hr:w0.heap.size≤r) (hs:w1.heap.size=w.heap.size) (hk:∀ x,x≠r→w1.heap[x]? = w.heap[x]?) (hn:∀ b k,((s.h0 h0).get b).isSome=true→ρ b ≠ .at_ r k) (ht:gJ w1):s.At ρ0 h0 w0 TB ρ w1:=by
 obtain ⟨l,e,f,o,q⟩:=A.TM.log
 refine ⟨⟨A.TM.le,A.TM.next,A.TM.born,by rw [hs];exact A.TM.size,l,e,fun x ox hx hm=>?_,o,q⟩,ht,fun b ob hb=>?_,A.hr.inj⟩
 ·rw [hk x fun e1=>?_]
  ·exact f x ox hx hm
  ·have:=(Array.getElem?_eq_some_iff.1 hx).1;omega
 ·obtain ⟨x,k,o',h1,h2,h3⟩:=A.hr.ob b ob hb
  refine ⟨x,k,o',h1,?_,h3⟩
  rw [hk x fun e1=>?_]
  ·exact h2
  ·subst e1;exact hn b k (by rw [hb];rfl) h1
theorem G5 {w:World} {r:Nat} {o o':Obj} (h:w.heap[r]? = some o):(setBlock w r o').heap[r]? = some o':=by
 have:=(Array.getElem?_eq_some_iff.1 h).1
 simp [setBlock,this]
theorem Ep {w:World} {r x:Nat} {o':Obj} (h:x≠r):(setBlock w r o').heap[x]? = w.heap[x]?:=by
 simp only [setBlock]
 rw [Array.getElem?_setIfInBounds_ne (Ne.symm h)]
theorem qQ {o:Oper} {ops:Array Oper} {tm:Array Value} (h:o.guard=none):Region.wanted o (yielded ops tm)=true:=by unfold Region.wanted;rw [h]
theorem dw.DN {S:List Nat} {b:Nat}:dw.has S b=true↔b∈S:=by
 unfold dw.has
 rw [List.any_eq_true]
 constructor
 ·rintro ⟨c,h1,h2⟩
  rw [←Nat.eq_of_beq_eq_true h2];exact h1
 ·exact fun h=>⟨b,h,by simp⟩
structure dw.At (f:FuncId) (n:Nat) (h:H) (ρ0:aY) (w0:World) (TB:List Nat) (m mA clock r:Nat) (S:List Nat) (s:Cst) (ρ:aY) (b:Frame) (a:Act) (w:World):Prop where
 A:s.At ρ0 h w0 TB ρ w
 sits:Sits ρ f n none ⟨s.t,s.h0 h,[]⟩ b a
 iter:∃ seen:Array Nat,vC ρ (s.h0 h) h.next r (.mapIter (some mA) clock seen clock) w∧seen.toList.Perm S
 mN:∃ k,ρ m = .at_ mA k
structure dw.Good (c:dw) (h:H) (TB:List Nat) (s:Cst):Prop where
 ok:s.OK h TB
 next:h.next<s.nx
 free:∀ p∈s.ms,p.1≠h.next
 d5:s.t.get c.d5=some (dw.ptr h)
theorem dw.Qk {c:dw} {h:H} {TB:List Nat} {s:Cst} (e:dw.Ql c h TB s=true):dw.Good c h TB s:=by
 unfold dw.Ql at e
 simp only [Bool.and_eq_true] at e
 obtain ⟨⟨⟨h1,h2⟩,h3⟩,h4⟩:=e
 refine ⟨Cst.YB h1,by rwa [Nat.blt_eq] at h2,fun p hp=>?_,?_⟩
 ·have:=List.all_eq_true.1 h3 p hp
  intro e1
  rw [e1] at this
  simp at this
 ·split at h4
  ·rename_i v hv;rw [hv,iU h4]
  ·cases h4
theorem EP {ρ:aY} {n d r:Nat} {h:H} {t:T Value} {a:Act} (ht:TR ρ n t a.tmps) (hd:t.get d=some (dw.ptr h)) (hn:ρ h.next = .at_ r 0):a.eval (.tmp d) = .pointer (some ⟨r,0,none⟩):=by
 obtain ⟨v',h1,h2⟩:=ht.get d _ hd
 obtain ⟨⟨x,o,sp⟩,rfl,ha⟩:=VR.iQ h2
 have hb:=ha.block.at_ hn
 have ho:=ha.off
 have hs:=ha.spot'
 simp only at hb ho hs
 subst hb ho hs
 show a.tmps.getD d undef=_
 rw [Array.getD_eq_getD_getElem?,h1]
 rfl
theorem SB {es:List MapEntry} (h:AB es=true) {e:MapEntry} (he:e∈es):flat e.key=true∧flat e.val=true:=by
 unfold AB at h
 have:=List.all_eq_true.1 h e he
 split at this
 ·rename_i h1;exact ⟨h1,this⟩
 ·cases this
set_option maxHeartbeats 2000000 in
theorem dw.round (hI:iH P inv) (hD:fF P inv) {c:dw} {f:FuncId} (hc:c.OK P f) {n:Nat} {h:H} {ρ0:aY} {w0:World} {TB:List Nat} {m mA clock r hi:Nat} {es:List MapEntry} (hr0:HR ρ0 h w0) (hu:gK ρ0 h.next hi) (hm:h.get m=some (.map es clock)) (hmT:m∉TB)
  (hborn:∀ e∈es,e.born<clock) (hnd:(es.map (·.born)).Nodup) (hfl:AB es=true) (hr1:w0.heap.size≤r)
  {S:List Nat} {s:Cst} {ρ:aY} {b:Frame} {a:Act} {w:World} (K:dw.At f n h ρ0 w0 TB m mA clock r S s ρ b a w) (G:dw.Good c h TB s) (hhi:s.nx≤hi) {k:List Item} {cs:List Frame} (hleft:∃ e∈es,e.born∉S) :
  ∃ e∈es,e.born∉S∧∀ t5 h5,dw.Lp P inv c f n h s e=some (t5,h5)→h5.next≤hi→∀ S' s',S'.Perm (S++[e.born])→dw.Good c h TB s'→s'.nx≤hi→je uz t5 s'.t=true→s'.Ba h TB h5 →
   ∃ ρ' a' w',Steps P (lone (b.atR a (.code c.lb :: .inLoop c.lb::k)) cs w) (lone (b.atR a' (.code c.lb :: .inLoop c.lb::k)) cs w')∧dw.At f n h ρ0 w0 TB m mA clock r S' s' ρ' b a' w':=by
 obtain ⟨A,hs,⟨seen,Lo,hseen⟩,⟨kA,hmN⟩⟩:=K
 have hnx:=G.ok.next
 have hb0:∀ x o,h.get x=some o→x<h.next∨hi≤x:=fun x o hx=>by
  obtain ⟨y,kx,o',q1,_⟩:=hr0.ob x o hx
  by_cases hlt:h.next≤x∧x<hi
  ·rw [hu x hlt.1 hlt.2] at q1;cases q1
  ·omega
 have hgm:∀ (s:Cst),dw.Good c h TB s→s.nx≤hi→(s.h0 h).get m=some (.map es clock):=fun s G hs=>by
  have:=hb0 m _ hm
  exact (Cst.mW G.ok hmT (by omega)).trans hm
 have hgI:∀ (s:Cst),dw.Good c h TB s→s.nx≤hi→(s.h0 h).get h.next=none:=fun s G hs=>by
  have h1:(s.h0 h).get h.next=h.get h.next:=Fp G.ok.low G.free
  rw [h1]
  cases hx:h.get h.next with
  | none=>rfl
  | some o=>
   have:=hb0 _ _ hx
   have:=G.next
   omega
 obtain ⟨x,kx,om,m1,m2,rfl,_⟩:=A.hr.ob m _ (hgm s G hhi)
 rw [hmN] at m1
 cases m1
 have hev:a.eval (.tmp c.d5) = .pointer (some ⟨r,0,none⟩):=EP hs.tmps G.d5 Lo.name
 have hcases:=run_next_at (P:=P) w c.oN.type r mA clock clock seen ⟨es⟩ clock Lo.obj m2 (fun x hx=>hborn x hx) (Nat.le_refl _)
 have hleft':¬ (leftOf ⟨es⟩ seen).size=0:=by
  obtain ⟨e,he,hb⟩:=hleft
  intro h0
  have hmem:e∈leftOf ⟨es⟩ seen:=by
   unfold leftOf
   rw [Array.mem_filter]
   refine ⟨by simpa using he,?_⟩
   have:e.born∉seen:=fun hx=>hb (hseen.mem_iff.1 (by simpa using hx))
   simpa using this
  rw [Array.eq_empty_of_size_eq_zero h0] at hmem
  simp at hmem
 rcases hcases with ⟨h0,_⟩ | ⟨e,heL,w',hw',hrun⟩
 ·exact absurd h0 hleft'
 have he:e∈es∧e.born∉seen:=by
  unfold leftOf at heL
  simpa using heL
 refine ⟨e,he.1,fun hx=>he.2 (by simpa using hseen.mem_iff.2 hx),fun t5 h5 hout hh5 S' s' hS' G' hhi' hsub tk=>?_⟩
 obtain ⟨fk,fv⟩:=SB hfl he.1
 unfold dw.Lp at hout
 split at hout
 case h_2=>cases hout
 rename_i tN etN
 split at hout
 case h_2=>cases hout
 rename_i t2 h2 e2
 split at hout
 case h_2=>cases hout
 rename_i hl2 e7
 split at hout
 case h_2=>cases hout
 rename_i t3 et3 ed5
 split at hout
 case h_2=>cases hout
 rename_i t4 h4 e4
 split at hout
 case h_2=>cases hout
 rename_i t5' h5' e5
 cases hout
 have hd52:t2.get c.d5=some (dw.ptr h):=by
  split at ed5
  ·rename_i v hv;rw [hv,iU ed5]
  ·cases ed5
 have n2:=dX hI.next e2
 have n4:=dX hI.next e4
 obtain ⟨n5,r5⟩:=eH hI hD c.cR _ _ e5
 have n2:s.nx≤h2.next:=n2
 have n5:h4.next≤h5.next:=n5
 generalize hw1:setBlock w' r (.mapIter (some mA) clock (seen.push e.born) clock)=w1 at hrun
 have hw'h:w'.heap=w.heap:=by rcases hw' with rfl | rfl<;>rfl
 have hrw':w'.heap[r]? = some (.mapIter (some mA) clock seen clock):=by rw [hw'h];exact Lo.obj
 have hw1r:w1.heap[r]? = some (.mapIter (some mA) clock (seen.push e.born) clock):=by rw [←hw1];exact G5 hrw'
 have hw1o:∀ x,x≠r→w1.heap[x]? = w.heap[x]?:=fun x hx=>by rw [←hw1,Ep hx,hw'h]
 have hw1s:w1.heap.size=w.heap.size:=by rw [←hw1];simp [setBlock,hw'h]
 have hstep1:=jo (P:=P) (b:=b) (a:=a) (k:=.code (.seq (.cond c.c7 .skip (.exit c.ry)) (.block c.lM c.inner)) :: .inLoop c.lb::k) (cs:=cs) (w:=w) (w':=w1) (ops:=⟨c.oN::c.iI⟩) (i:=0) (rest:=List.range' 1 c.iI.length) (o:=c.oN) (N:=.value (.tuple #[.bool true,e.key,e.val])) (v:=.tuple #[.bool true,e.key,e.val]) rfl (qQ hc.gN)
  (fun d hd=>by rw [hc.opN] at hd;cases hd) (by
   have:(do pure (.value (← Instr.next (a.eval (.tmp c.d5)) false c.oN.type)):Sem Next).run P w = .ok (.value (.tuple #[.bool true,e.key,e.val])) w1:=by
    simp [hev,hrun]
   unfold execOp
   rw [hc.opN]
   exact this) (.inl rfl)
 rw [hc.dN] at hstep1
 have hvN:VR ρ (.tuple ⟨[.bool true,e.key,e.val]⟩) (.tuple #[.bool true,e.key,e.val]):=bF (by simp [flat,ig,fk,fv])
 have trN:TR ρ n tN (a.put (some c.d6) (.tuple #[.bool true,e.key,e.val])).tmps:=hs.tmps.put etN hvN
 have A1:s.At ρ0 h w0 TB ρ w1:=A.touch hr1 hw1s hw1o (fun b k hb hx=>Lo.apart b k hb hx) (A.hr.dH.set hw1r hw1o rfl)
 have Lo1:vC ρ (s.h0 h) h.next r (.mapIter (some mA) clock (seen.push e.born) clock) w1:=⟨Lo.name,Lo.apart,hw1r⟩
 have huS:gK ρ s.nx hi:=A1.QL G.ok hu
 generalize ha1:a.put (some c.d6) (.tuple #[.bool true,e.key,e.val])=a1 at *
 have hda1:a1.defers=a.defers:=by rw [←ha1,put_defers]
 obtain ⟨ρ2,a2,w2,p1,p2,p3,p4,p5⟩:=BG (b:=b) (k:=.code (.seq (.cond c.c7 .skip (.exit c.ry)) (.block c.lM c.inner)) :: .inLoop c.lb::k) (cs:=cs) hI (ops:=⟨c.oN::c.iI⟩) (i:=1) rfl e2 trN A1.hr (huS.sub (Nat.le_refl _) (by show h2.next≤hi;omega))
 have hcond:a2.eval c.c7 = .bool true:=(dh p5 _ _ e7).dQ
 have Lo2:=Lo1.step p3 (huS.sub (Nat.le_refl _) (by show h2.next≤hi;omega)) (hgI s G hhi) G.next
 have hev2:a2.eval (.tmp c.d5) = .pointer (some ⟨r,0,none⟩):=EP p5 hd52 Lo2.name
 obtain ⟨l2,el2,_,_,_,hget2,hsame2⟩:=id p3.log
 have hl2':l2=[]:=by
  have el2:h2.log=l2++[]:=el2
  rw [hl2] at el2
  simpa using el2.symm
 subst hl2'
 have hmN2:ρ2 m = .at_ mA kA:=by rw [hsame2 m (by simp) (by rw [hmN];exact fun h=>by cases h)];exact hmN
 have hgm2:h2.get m=some (.map es clock):=by rw [hget2 m (by simp)];exact hgm s G hhi
 obtain ⟨x2,kx2,om2,m21,m22,rfl,_⟩:=p4.ob m _ hgm2
 rw [hmN2] at m21
 cases m21
 have hrunE:=run_entry_at (P:=P) w2 r mA clock seen ⟨es⟩ clock e Lo2.obj m22 he.1 hnd
 have hstep2:=jo (P:=P) (b:=b) (a:=a2) (k:=.code c.cR :: .inBlock c.lM :: .inLoop c.lb::k) (cs:=cs) (w:=w2) (w':=w2) (ops:=⟨c.oE::c.ops2⟩) (i:=0) (rest:=List.range' 1 c.ops2.length) (o:=c.oE) (N:=.value (.tuple #[e.key,e.val])) (v:=.tuple #[e.key,e.val]) rfl (qQ hc.gE)
  (fun d hd=>by rw [hc.opE] at hd;cases hd) (by
   have:(do pure (.value (← Instr.entry (a2.eval (.tmp c.d5)))):Sem Next).run P w2 = .ok (.value (.tuple #[e.key,e.val])) w2:=by
    simp [hev2,hrunE]
   unfold execOp
   rw [hc.opE]
   exact this) (.inl rfl)
 rw [hc.dE] at hstep2
 have hvE:VR ρ2 (.tuple ⟨[e.key,e.val]⟩) (.tuple #[e.key,e.val]):=bF (by simp [flat,ig,fk,fv])
 have tr3:TR ρ2 n t3 (a2.put (some c.d8) (.tuple #[e.key,e.val])).tmps:=p5.put et3 hvE
 generalize ha3:a2.put (some c.d8) (.tuple #[e.key,e.val])=a3 at *
 have hda3:a3.defers=a2.defers:=by rw [←ha3,put_defers]
 have hu2:gK ρ2 h2.next hi:=(huS.sub n2 (Nat.le_refl _)).step p3 (Nat.le_refl _)
 obtain ⟨ρ4,a4,w4,q1,q2,q3,q4,q5⟩:=BG (b:=b) (k:=.code c.cR :: .inBlock c.lM :: .inLoop c.lb::k) (cs:=cs) hI (ops:=⟨c.oE::c.ops2⟩) (i:=1) rfl e4 tr3 p4 (hu2.sub (Nat.le_refl _) (by omega))
 have hu4:gK ρ4 h4.next hi:=(hu2.sub n4 (Nat.le_refl _)).step q3 (Nat.le_refl _)
 obtain ⟨ρ5,a5,w5,g1,g2,g3,g4⟩:=r5 ρ4 b a4 (.inBlock c.lM :: .inLoop c.lb::k) cs w4 ⟨hs.DT,hs.kind,hs.DJ.mono (p3.le.trans q3.le),q5,by rw [q2,hda3,p2,hda1];exact hs.marks.mono (p3.le.trans q3.le)⟩ q4 (hu4.sub (Nat.le_refl _) hh5)
 have g1:Steps P _ _:=g1
 have hall:Stp ρ (s.h0 h) w1 ρ5 h5 w5:=(p3.trans q3).trans g2
 have A5:=A1.step G.ok G'.ok hr0 hu hhi' hall g3 tk
 have Lo5:=(Lo1.step hall (huS.sub (Nat.le_refl _) hh5) (hgI s G hhi) G.next).less (tk.known G.ok G'.ok hr0 hu hhi' hall)
 refine ⟨ρ5,a5,w5,?_,A5,⟨g4.DT,g4.kind,g4.DJ,g4.tmps.je hsub,g4.marks⟩,⟨_,Lo5,?_⟩,⟨kA,?_⟩⟩
 ·have hr1:List.range (⟨c.oN::c.iI⟩:Array Oper).size=0::List.range' 1 c.iI.length:=by rw [List.range_eq_range'];simp [List.range'_succ]
  have hr2:List.range (⟨c.oE::c.ops2⟩:Array Oper).size=0::List.range' 1 c.ops2.length:=by rw [List.range_eq_range'];simp [List.range'_succ]
  refine .head stepR_seq (.head stepR_region ?_)
  rw [hr1]
  refine .head hstep1 (p1.trans (.head stepR_seq (.head (stepR_cond hcond) (.head stepR_skip (.head stepR_block (.head stepR_seq (.head stepR_region ?_)))))))
  rw [hr2]
  exact .head hstep2 (q1.trans (g1.trans (.head stepR_inBlock (.one stepR_inLoop))))
 ·have:(seen.push e.born).toList=seen.toList++[e.born]:=by simp
  rw [this]
  exact (hseen.append_right [e.born]).trans hS'.symm
 ·obtain ⟨l,el,_,_,_,_,hsame⟩:=hall.log
  have el:h5.log=l++[]:=el
  rw [List.append_nil] at el
  rw [hsame m (fun hml=>?_) (by rw [hmN];exact fun h=>by cases h)]
  ·exact hmN
  ·rcases tk.log m (by rw [el];exact hml) with h1 | h1
   ·exact hmT h1
   ·have:=hb0 m _ hm;omega
end Ev
end Go
end
end
section
section
namespace Go
namespace Ev
open Go.ChangeMaps (setBlock)
variable {P:Program} {inv:Iv}
section
variable {c:dw} {f:FuncId} {n:Nat} {h:H}
theorem dw.pG {S:List Nat} {s:Cst}:∀ {es:List MapEntry} {r:List (List Nat × T Value × H)},dw.yx P inv c f n h S s es=some r→∀ e∈es,e.born∉S→∃ t h',dw.Lp P inv c f n h s e=some (t,h')∧(S++[e.born],t,h')∈r
 | [],r,hr,e,he,_=>by simp at he
 | x::es,r,hr,e,he,hb=>by
  simp only [dw.yx] at hr
  split at hr
  ·rename_i hx
   rcases List.mem_cons.1 he with rfl | he
   ·exact absurd (dw.DN.1 hx) hb
   ·exact dw.pG hr e he hb
  ·split at hr
   ·rename_i t h' r' e1 e2
    cases hr
    rcases List.mem_cons.1 he with rfl | he
    ·exact ⟨t,h',e1,List.mem_cons_self ..⟩
    ·obtain ⟨t2,h2,g1,g2⟩:=dw.pG e2 e he hb
     exact ⟨t2,h2,g1,List.mem_cons_of_mem _ g2⟩
   ·cases hr
theorem dw.qj {es:List MapEntry}:∀ {l:List (List Nat × Cst)} {r:List (List Nat × T Value × H)},dw.outs P inv c f n h es l=some r→∀ p∈l,(∃ e∈es,e.born∉p.1)∧∀ e∈es,e.born∉p.1→∃ t h',dw.Lp P inv c f n h p.2 e=some (t,h')∧(p.1++[e.born],t,h')∈r
 | [],r,hr,p,hp=>by simp at hp
 | (S,s)::l,r,hr,p,hp=>by
  simp only [dw.outs] at hr
  split at hr
  ·rename_i a b e0 e1 e2
   cases hr
   rcases List.mem_cons.1 hp with h1 | h1
   ·subst h1
    refine ⟨?_,fun e he hb=>?_⟩
    ·rw [List.all_eq_false] at e0
     obtain ⟨e,he,hb⟩:=e0
     exact ⟨e,he,fun hx=>hb (dw.DN.2 hx)⟩
    ·obtain ⟨t,h',g1,g2⟩:=dw.pG e1 e he hb
     exact ⟨t,h',g1,List.mem_append_left _ g2⟩
   ·obtain ⟨g0,g⟩:=dw.qj e2 p h1
    refine ⟨g0,fun e he hb=>?_⟩
    obtain ⟨t,h',g1,g2⟩:=g e he hb
    exact ⟨t,h',g1,List.mem_append_right _ g2⟩
  ·cases hr
theorem XC {a b:List Nat} (h:vJ Nat.beq a b=true):a.Perm b:=kE BK h
theorem dw.Uu (hI:iH P inv) (hD:fF P inv) {s:Cst} {e:MapEntry} {t:T Value} {h':H} (e1:dw.Lp P inv c f n h s e=some (t,h')):s.nx≤h'.next:=by
 unfold dw.Lp at e1
 split at e1
 case h_2=>cases e1
 split at e1
 case h_2=>cases e1
 rename_i e2
 split at e1
 case h_2=>cases e1
 split at e1
 case h_2=>cases e1
 split at e1
 case h_2=>cases e1
 rename_i e4
 split at e1
 case h_2=>cases e1
 rename_i e5
 cases e1
 have n2:=dX hI.next e2
 have n4:=dX hI.next e4
 obtain ⟨n5,_⟩:=eH hI hD c.cR _ _ e5
 have n2:s.nx≤_:=n2
 exact Nat.le_trans n2 (Nat.le_trans n4 n5)
theorem dw.Qm (hI:iH P inv) (hD:fF P inv) {es:List MapEntry} {TB:List Nat} {t0:T Value}:∀ {k:Nat} {sts:List (List Nat × Cst)} {sF:Cst},dw.LQ P inv c f n h es TB t0 k sts=some sF→∀ p∈sts,p.2.nx≤sF.nx
 | 0,sts,sF,hg,p,hp=>by
  simp only [dw.LQ] at hg
  split at hg
  ·split at hg
   ·cases hg
    obtain rfl:=List.mem_singleton.1 hp
    exact Nat.le_refl _
   ·cases hg
  ·cases hg
 | k+1,sts,sF,hg,p,hp=>by
  simp only [dw.LQ] at hg
  split at hg
  case h_2=>cases hg
  rename_i os eo
  split at hg
  case h_2=>cases hg
  rename_i sts' e1
  unfold dw.Fg at e1
  split at e1
  case h_2=>cases e1
  rename_i g1 g2
  generalize dw.fresh h TB t0 os []=sN at *
  cases e1
  obtain ⟨⟨e,he,hb⟩,hout⟩:=dw.qj eo p hp
  obtain ⟨t,h',q1,q2⟩:=hout e he hb
  have:=List.all_eq_true.1 g2 _ q2
  obtain ⟨p',hp',hx⟩:=List.any_eq_true.1 this
  simp only [Bool.and_eq_true] at hx
  have tk:=Cst.pK qA hx.2
  exact Nat.le_trans (dw.Uu hI hD q1) (Nat.le_trans tk.next (dw.Qm hI hD hg p' hp'))
theorem dw.rounds (hI:iH P inv) (hD:fF P inv) (hc:c.OK P f) {ρ0:aY} {w0:World} {TB:List Nat} {t0:T Value} {m mA clock r hi:Nat} {es:List MapEntry} (hr0:HR ρ0 h w0) (hu:gK ρ0 h.next hi) (hm:h.get m=some (.map es clock)) (hmT:m∉TB)
  (hborn:∀ e∈es,e.born<clock) (hnd:(es.map (·.born)).Nodup) (hfl:AB es=true) (hr1:w0.heap.size≤r) {b:Frame} {kk:List Item} {cs:List Frame} :
  ∀ (k:Nat) (sts:List (List Nat × Cst)) (sF:Cst),dw.LQ P inv c f n h es TB t0 k sts=some sF→sF.nx≤hi→(∀ p∈sts,dw.Good c h TB p.2)→∀ p∈sts,∀ (ρ:aY) (a:Act) (w:World),dw.At f n h ρ0 w0 TB m mA clock r p.1 p.2 ρ b a w →
   ∃ S ρ' a' w',Steps P (lone (b.atR a (.code c.lb :: .inLoop c.lb::kk)) cs w) (lone (b.atR a' (.code c.lb :: .inLoop c.lb::kk)) cs w')∧dw.At f n h ρ0 w0 TB m mA clock r S sF ρ' b a' w'∧(∀ e∈es,e.born∈S)∧dw.Good c h TB sF
 | 0,sts,sF,hg,hhi,hG,p,hp,ρ,a,w,K=>by
  simp only [dw.LQ] at hg
  split at hg
  ·rename_i S s
   split at hg
   ·rename_i hall
    cases hg
    obtain rfl:=List.mem_singleton.1 hp
    exact ⟨S,ρ,a,w,.refl _ _,K,fun e he=>dw.DN.1 (List.all_eq_true.1 hall e he),hG _ hp⟩
   ·cases hg
  ·cases hg
 | k+1,sts,sF,hg,hhi,hG,p,hp,ρ,a,w,K=>by
  have hle:=dw.Qm hI hD hg p hp
  simp only [dw.LQ] at hg
  split at hg
  case h_2=>cases hg
  rename_i os eo
  split at hg
  case h_2=>cases hg
  rename_i sts' e1
  unfold dw.Fg at e1
  split at e1
  case h_2=>cases e1
  rename_i g1 g2
  generalize dw.fresh h TB t0 os []=sN at *
  cases e1
  obtain ⟨hleft,hout⟩:=dw.qj eo p hp
  obtain ⟨e,he,hb,hR⟩:=dw.round (cs:=cs) (k:=kk) hI hD hc hr0 hu hm hmT hborn hnd hfl hr1 K (hG p hp) (by omega) hleft
  obtain ⟨t,h',q1,q2⟩:=hout e he hb
  have:=List.all_eq_true.1 g2 _ q2
  obtain ⟨p',hp',hx⟩:=List.any_eq_true.1 this
  simp only [Bool.and_eq_true] at hx
  have tk:=Cst.pK qA hx.2
  have hle':=dw.Qm hI hD hg p' hp'
  have hG':∀ p∈sts',dw.Good c h TB p.2:=fun p hp=>dw.Qk (List.all_eq_true.1 g1 p hp)
  have htn:=tk.next
  obtain ⟨ρ1,a1,w1,s1,K1⟩:=hR t h' q1 (by omega) p'.1 p'.2 (XC hx.1.1) (hG' p' hp') (by omega) hx.1.2 tk
  obtain ⟨S,ρ2,a2,w2,s2,K2,r1,r2⟩:=dw.rounds hI hD hc hr0 hu hm hmT hborn hnd hfl hr1 (b:=b) (kk:=kk) (cs:=cs) k sts' sF hg hhi hG' p' hp' ρ1 a1 w1 K1
  exact ⟨S,ρ2,a2,w2,s1.trans s2,K2,r1,r2⟩
end
def dw.start (P:Program) (inv:Iv) (c:dw) (n:Nat) (args:List Value) (h:H):Option (T Value × Nat × List MapEntry × Nat):=
 match qI 0 args .nil with
 | some ta=>match rD P inv n [c.oL,c.oR] [c.oL] ta h with
  | some t1=>match t1.get c.d4,jl t1 n (some c.d5) (dw.ptr h) with
   | some (.map (some m)),some t0=>match h.get m with
    | some (.map es clock)=>match AB es,es.all (fun e=>Nat.blt e.born clock),nodupB (es.map (·.born)) with
     | true,true,true=>some (t0,m,es,clock)
     | _,_,_=>none
    | _=>none
   | _,_=>none
  | none=>none
 | none=>none
def dw.touched (P:Program) (inv:Iv) (c:dw) (f:FuncId) (n:Nat) (h:H) (t0:T Value):List MapEntry→Option (List Nat)
 | []=>some []
 | e::_=>match dw.Lp P inv c f n h ⟨[],h.next+1,t0⟩ e with
  | some (_,h5)=>some ((dedup h5.log []).filter fun b=>Nat.blt b h.next)
  | none=>none
def dw.finO (P:Program) (c:dw) (h:H) (TB:List Nat) (sF:Cst) (t2:T Value) (h2:H):Option (Value × H):=
 match (Cst.mk sF.ms h2.next t2).okB h TB,(Cst.mk sF.ms h2.next t2).yG Oz h TB h2 with
 | true,true=>mO P c.fn (.normal,⟨t2,⟨kX sF.ms h.t,h2.next,TB++List.range' h.next (h2.next - h.next)++h.log⟩,[]⟩)
 | _,_=>none
def dw.aG (P:Program) (inv:Iv) (c:dw) (f:FuncId) (args:List Value) (h:H):Option (Value × H):=
 match dw.start P inv c (args.length+(c.fn.ntmps - args.length)) args h with
 | some (t0,m,es,clock)=>match dw.touched P inv c f (args.length+(c.fn.ntmps - args.length)) h t0 es with
  | some TB=>match dw.has TB m,dw.Ql c h TB (dw.st0 h TB t0),dw.LQ P inv c f (args.length+(c.fn.ntmps - args.length)) h es TB t0 es.length [([],dw.st0 h TB t0)] with
   | false,true,some sF=>match dw.VE P inv c n0 h sF with
    | some (t2,h2)=>dw.finO P c h TB sF t2 h2
    | none=>none
   | _,_,_=>none
  | none=>none
 | none=>none
where n0:Nat:=args.length+(c.fn.ntmps - args.length)
theorem dw.QU {h:H} {TB:List Nat} {t0:T Value} {h':H} (hg:∀ b,h'.get b=h.get b) (hn:h'.next=h.next+1) (hl:h'.log=[]):(dw.st0 h TB t0).Ba h TB h':=by
 refine ⟨fun p hp=>?_,fun b hb=>by rw [hl] at hb;simp at hb,by rw [hn];exact Nat.le_refl _⟩
 obtain ⟨b,_,hb⟩:=List.mem_filterMap.1 hp
 split at hb
 ·rename_i o ho
  cases hb
  exact ⟨o,by rw [hg];exact ho,.refl o⟩
 ·cases hb
set_option maxHeartbeats 2000000 in
theorem dw.does (hI:iH P inv) (hD:fF P inv) {c:dw} {f:FuncId} (hc:c.OK P f) {args:List Value} {h h':H} {v:Value} (ev:c.aG P inv f args h=some (v,h')):aV P f args h v h':=by
 unfold dw.aG dw.aG.n0 at ev
 generalize hn:args.length+(c.fn.ntmps - args.length)=n at ev
 split at ev
 case h_2=>cases ev
 rename_i t0 m es clock est
 split at ev
 case h_2=>cases ev
 rename_i TB eTB
 split at ev
 case h_2=>cases ev
 rename_i sF hmT hgood ego
 split at ev
 case h_2=>cases ev
 rename_i t2 h2 eend
 unfold dw.start at est
 split at est
 case h_2=>cases est
 rename_i ta hta
 split at est
 case h_2=>cases est
 rename_i t1 et1
 split at est
 case h_2=>cases est
 rename_i m0 t0' hd4 et0
 split at est
 case h_2=>cases est
 rename_i es0 clock0 hm
 split at est
 case h_2=>cases est
 rename_i hfl hborn hnd
 cases est
 have hborn:∀ e∈es,e.born<clock:=fun e he=>by
  have:=List.all_eq_true.1 hborn e he
  rwa [Nat.blt_eq] at this
 have hnd:=tq hnd
 have hmT:m∉TB:=fun hx=>by rw [dw.DN.2 hx] at hmT;cases hmT
 have G0:=dw.Qk hgood
 unfold dw.finO at ev
 split at ev
 case h_2=>cases ev
 rename_i hokE htkE
 have okE:=Cst.YB hokE
 have tkE:=Cst.pK qA htkE
 have htkn:h2.next≤h2.next:=tkE.next
 unfold dw.VE at eend
 split at eend
 case h_2=>cases eend
 rename_i tN etN
 split at eend
 case h_2=>cases eend
 rename_i t2' h2' e2
 split at eend
 case h_2=>cases eend
 rename_i e7
 cases eend
 have n2:=dX hI.next e2
 have n2:sF.nx≤h2.next:=n2
 have hle:=dw.Qm hI hD ego _ (List.mem_singleton.2 rfl)
 have hle:h.next+1≤sF.nx:=hle
 refine uS (x:=(.normal,⟨t2,⟨kX sF.ms h.t,h2.next,TB++List.range' h.next (h2.next - h.next)++h.log⟩,[]⟩)) hc.ff hc.fb hc.fname hta ?_ ev
 rw [hn]
 refine ⟨by show h.next≤h2.next;omega,fun ρ b a k cs w hs hr hu=>?_⟩
 have hu:gK ρ h.next h2.next:=hu
 have hb0:∀ x o,h.get x=some o→x<h.next∨h2.next≤x:=fun x o hx=>by
  obtain ⟨y,kx,o',q1,_⟩:=hr.ob x o hx
  by_cases hlt:h.next≤x∧x<h2.next
  ·rw [hu x hlt.1 hlt.2] at q1;cases q1
  ·omega
 obtain ⟨ρ1,a1,w1,q1,q2,q3,q4,q5,q6⟩:=zD (b:=b) (k:=.code (.block c.ry (.loop c.lb))::k) (cs:=cs) (rest:=[1]) hI (ops:=#[c.oL,c.oR]) (l:=[c.oL]) (i:=0) (fun j hj=>by simp at hj;subst hj;rfl) et1 hs.tmps hr
 obtain ⟨vm,gm1,gm2⟩:=q5.get _ _ hd4
 obtain ⟨mr,rfl,hB⟩:=gm2.JF
 obtain ⟨mA,kA,om,o1,o2,rfl,_⟩:=q4.ob m _ hm
 obtain rfl:=hB.at_ o1
 have hev:a1.eval (.tmp c.d4) = .map (some mr):=by
  show a1.tmps.getD c.d4 undef=_
  rw [Array.getD_eq_getD_getElem?,gm1]
  rfl
 have hstep:=jo (P:=P) (b:=b) (a:=a1) (k:=.code (.block c.ry (.loop c.lb))::k) (cs:=cs) (w:=w1) (w':=w1.alloc (.mapIter (some mr) clock #[] clock)) (ops:=#[c.oL,c.oR]) (i:=1) (rest:=[]) (o:=c.oR) (N:=.value (.pointer (some ⟨w1.heap.size,0,none⟩))) (v:=.pointer (some ⟨w1.heap.size,0,none⟩)) rfl (qQ hc.gR)
  (fun d hd=>by rw [hc.opR] at hd;cases hd) (by
   have:(do pure (.value (← Instr.range c.tM (a1.eval (.tmp c.d4)))):Sem Next).run P w1 = .ok (.value (.pointer (some ⟨w1.heap.size,0,none⟩))) (w1.alloc (.mapIter (some mr) clock #[] clock)):=by
    simp [Instr.range,hev,run_underlying hc.und,getObj,Sem.run,o2]
   unfold execOp
   rw [hc.opR]
   exact this) (.inl rfl)
 rw [hc.dR] at hstep
 have hpush:(w1.alloc (.mapIter (some mr) clock #[] clock)).heap=w1.heap.push (.mapIter (some mr) clock #[] clock):=rfl
 have huI:ρ1 h.next = .aT:=q3.born _ (hu _ (Nat.le_refl _) (by omega)) (.inr (Nat.le_refl _))
 obtain ⟨s1,s2⟩:=Ub q4 huI hpush rfl
 generalize hρ2:upd ρ1 h.next (.at_ w1.heap.size 0)=ρ2 at *
 generalize hw2:w1.alloc (.mapIter (some mr) clock #[] clock)=w2 at *
 have hw2r:w2.heap[w1.heap.size]? = some (.mapIter (some mr) clock #[] clock):=by rw [hpush];simp
 have hn2:ρ2 h.next = .at_ w1.heap.size 0:=by rw [←hρ2,upd_same]
 have st2:Stp ρ h w ρ2 ⟨h.t,h.next+1,h.log⟩ w2:=q3.trans s1
 have hrge:w.heap.size≤w1.heap.size:=q3.size
 have ok0:=G0.ok
 have tk0:(dw.st0 h TB t0).Ba h TB ⟨h.t,h.next+1,[]⟩:=dw.QU (fun _=>rfl) rfl rfl
 have hr':HR ρ ⟨h.t,h.next,[]⟩ w:=⟨hr.dH,hr.ob,hr.inj⟩
 have st2':Stp ρ ⟨h.t,h.next,[]⟩ w ρ2 ⟨h.t,h.next+1,[]⟩ w2:=st2.Zy (l:=[]) rfl
 have s2':HR ρ2 ⟨h.t,h.next+1,[]⟩ w2:=⟨s2.dH,s2.ob,s2.inj⟩
 have hnxE:(dw.st0 h TB t0).nx≤h2.next:=by show h.next+1≤h2.next;omega
 have A0:=Cst.At.start ok0 hr hu hnxE st2' s2' tk0
 have hap:∀ b kb,(h.get b).isSome=true→ρ2 b ≠ .at_ w1.heap.size kb:=fun b kb hb hx=>by
  obtain ⟨o,ho⟩:=Option.isSome_iff_exists.1 hb
  obtain ⟨x,k1,o',g1,g2,_⟩:=q4.ob b o ho
  have hne:b≠h.next:=fun e1=>by
   subst e1
   rw [huI] at g1;cases g1
  rw [←hρ2,aJ _ _ hne,g1] at hx
  cases hx
  have:=(Array.getElem?_eq_some_iff.1 g2).1
  omega
 have Lo:vC ρ2 ((dw.st0 h TB t0).h0 h) h.next w1.heap.size (.mapIter (some mr) clock #[] clock) w2:=⟨hn2,fun b kb hb hx=>by
  obtain ⟨o,ho⟩:=Option.isSome_iff_exists.1 hb
  have ho:(kX (dw.st0 h TB t0).ms h.t).get b=some o:=ho
  rcases Fq ok0.low ho with h1 | ⟨_,h1⟩
  ·obtain ⟨o1,g1,_⟩:=tk0.ms _ h1
   have g1:h.get b=some o1:=g1
   exact hap b kb (by rw [g1];rfl) hx
  ·have h1:h.get b=some o:=h1
   exact hap b kb (by rw [h1];rfl) hx,hw2r⟩
 have tr0:TR ρ2 n t0 (a1.put (some c.d5) (.pointer (some ⟨w1.heap.size,0,none⟩))).tmps:=(q5.mono s1.le).put et0 (.ptr ⟨by show BR ρ2 h.next w1.heap.size;unfold BR;rw [hn2],rfl,rfl,rfl⟩)
 generalize ha2:a1.put (some c.d5) (.pointer (some ⟨w1.heap.size,0,none⟩))=a2 at *
 have hda2:a2.defers=a.defers:=by rw [←ha2,put_defers,q2]
 have hmN2:ρ2 m = .at_ mr kA:=by
  have hne:m≠h.next:=fun e1=>by
   have:=hb0 m _ hm;omega
  rw [←hρ2,aJ _ _ hne];exact o1
 have K0:dw.At f n h ρ w TB m mr clock w1.heap.size [] (dw.st0 h TB t0) ρ2 b a2 w2:=⟨A0,⟨hs.DT,hs.kind,hs.DJ.mono st2.le,tr0,by rw [hda2];exact hs.marks.mono st2.le⟩,⟨#[],Lo,.refl _⟩,⟨kA,hmN2⟩⟩
 obtain ⟨S,ρ3,a3,w3,p1,K3,hS,GF⟩:=dw.rounds (b:=b) (kk:=.inBlock c.ry::k) (cs:=cs) hI hD hc hr hu hm hmT hborn hnd hfl hrge es.length _ sF ego n2 (fun p hp=>by obtain rfl:=List.mem_singleton.1 hp;exact G0) _ (List.mem_singleton.2 rfl) ρ2 a2 w2 K0
 obtain ⟨A3,hs3,⟨seen,Lo3,hseen⟩,⟨kA3,hmN3⟩⟩:=K3
 have hgm3:(sF.h0 h).get m=some (.map es clock):=by
  have h0:=hb0 m _ hm
  have h1:m<h.next∨sF.nx≤m:=by omega
  exact (Cst.mW GF.ok hmT h1).trans hm
 have hgI3:(sF.h0 h).get h.next=none:=by
  have h1:(sF.h0 h).get h.next=h.get h.next:=Fp GF.ok.low GF.free
  rw [h1]
  cases hx:h.get h.next with
  | none=>rfl
  | some o=>
   have:=hb0 _ _ hx
   omega
 obtain ⟨x3,kx3,om3,m31,m32,rfl,_⟩:=A3.hr.ob m _ hgm3
 rw [hmN3] at m31
 cases m31
 have hev3:a3.eval (.tmp c.d5) = .pointer (some ⟨w1.heap.size,0,none⟩):=EP hs3.tmps GF.d5 Lo3.name
 have hempty:leftOf ⟨es⟩ seen=#[]:=by
  unfold leftOf
  rw [Array.filter_eq_empty_iff]
  intro x hx
  have:x.born∈seen:=by simpa using hseen.mem_iff.2 (hS x (by simpa using hx))
  simpa using this
 rcases run_next_at (P:=P) w3 c.oN.type w1.heap.size mr clock clock seen ⟨es⟩ clock Lo3.obj m32 (fun x hx=>hborn x hx) (Nat.le_refl _) with ⟨_,hrun⟩ | ⟨e,heL,_⟩
 case inr=>rw [hempty] at heL;simp at heL
 have hstep1:=jo (P:=P) (b:=b) (a:=a3) (k:=.code (.seq (.cond c.c7 .skip (.exit c.ry)) (.block c.lM c.inner)) :: .inLoop c.lb :: .inBlock c.ry::k) (cs:=cs) (w:=w3) (w':=w3) (ops:=⟨c.oN::c.iI⟩) (i:=0) (rest:=List.range' 1 c.iI.length) (o:=c.oN) (N:=.value (.tuple #[.bool false])) (v:=.tuple #[.bool false]) rfl (qQ hc.gN)
  (fun d hd=>by rw [hc.opN] at hd;cases hd) (by
   have:(do pure (.value (← Instr.next (a3.eval (.tmp c.d5)) false c.oN.type)):Sem Next).run P w3 = .ok (.value (.tuple #[.bool false])) w3:=by
    simp [hev3,hrun]
   unfold execOp
   rw [hc.opN]
   exact this) (.inl rfl)
 rw [hc.dN] at hstep1
 have trN:TR ρ3 n tN (a3.put (some c.d6) (.tuple #[.bool false])).tmps:=hs3.tmps.put etN (bF rfl)
 generalize ha4:a3.put (some c.d6) (.tuple #[.bool false])=a4 at *
 have hda4:a4.defers=a3.defers:=by rw [←ha4,put_defers]
 have hu3:gK ρ3 sF.nx h2.next:=A3.QL GF.ok hu
 obtain ⟨ρ4,a5,w4,g1,g2,g3,g4,g5⟩:=BG (b:=b) (k:=.code (.seq (.cond c.c7 .skip (.exit c.ry)) (.block c.lM c.inner)) :: .inLoop c.lb :: .inBlock c.ry::k) (cs:=cs) hI (ops:=⟨c.oN::c.iI⟩) (i:=1) rfl e2 trN A3.hr hu3
 have hcond:a5.eval c.c7 = .bool false:=(dh g5 _ _ e7).dQ
 have AE:=A3.step GF.ok okE hr hu (Nat.le_refl _) g3 g4 tkE
 refine ⟨ρ4,a5,w4,?_,AE.TM.yz h.log,AE.hr.yz,hs3.DT,hs3.kind,hs3.DJ.mono g3.le,g5,by rw [g2,hda4];exact hs3.marks.mono g3.le⟩
 have hrg:List.range (⟨c.oN::c.iI⟩:Array Oper).size=0::List.range' 1 c.iI.length:=by rw [List.range_eq_range'];simp [List.range'_succ]
 have hrg0:List.range (#[c.oL,c.oR]:Array Oper).size=[0,1]:=rfl
 refine Steps.trans (.head stepR_seq (.head stepR_region ?_)) (Steps.trans p1 (.head stepR_seq (.head stepR_region ?_)))
 ·rw [hrg0]
  exact q1.trans (.head hstep (.head stepR_region_end (.head stepR_block (.one stepR_loop))))
 ·rw [hrg]
  refine .head hstep1 (g1.trans (.head stepR_seq (.head (stepR_cond hcond) (.one (stepR_exit ?_)))))
  simp [exitTo]
def DK (P:Program) (inv:Iv) (c:dw) (f0:FuncId):FuncId→List Value→H→Option (Option (Value × H)):=fun f args h=>match Nat.beq f f0 with
 | true=>match c.aG P inv f0 args h with
  | some r=>some (some r)
  | none=>none
 | false=>none
theorem FH (hI:iH P inv) (hD:fF P inv) {c:dw} {f0:FuncId} (hc:c.OK P f0):df P (DK P inv c f0):=fun f args h v h' e=>by
 unfold DK at e
 split at e
 ·rename_i hf
  obtain rfl:=Nat.eq_of_beq_eq_true hf
  split at e
  ·rename_i r er
   simp only [Option.some.injEq] at e
   subst e
   exact dw.does hI hD hc er
  ·cases e
 ·cases e
end Ev
end Go
end
end
section
section
namespace Go
namespace Ev
variable {P:Program}
def Entry.Td (P:Program) (hk:Hook) (d nx:Nat) (e:Entry):Bool:=match BB P hk d e.f e.args e.kn nx with
 | some v=>uz v e.v
 | none=>false
theorem Entry.asked {hk:Hook} (hH:df P hk) {d nx:Nat} {e:Entry} (h:e.Td P hk d nx=true):e.ok P:=by
 unfold Entry.Td at h
 split at h
 ·rename_i v hv
  obtain rfl:=iU h
  exact ⟨EL hH hv,EM hv⟩
 ·cases h
theorem rY {hk:Hook} (hH:df P hk) {d nx:Nat} {es:List Entry} (h:es.all (fun e=>e.Td P hk d nx)=true):∀ e∈es,e.ok P:=fun e he=>Entry.asked hH (List.all_eq_true.1 h e he)
def Made.Td (P:Program) (hk:Hook) (d:Nat) (e:Made):Bool:=OQ P hk d e.f e.args e.kn e.nx e.v e.born e.nx'&&(e.kn.all (fun p=>Nat.blt p.1 top)&&e.born.all (fun p=>Nat.blt p.1 top&&Nat.ble e.nx p.1&&Nat.blt p.1 e.nx'))
theorem Made.asked {hk:Hook} (hH:df P hk) {d:Nat} {e:Made} (h:e.Td P hk d=true):e.ok P:=by
 unfold Made.Td at h
 rw [Bool.and_eq_true] at h
 exact ⟨Vh hH h.1,h.2⟩
theorem Ym {α:Type} {p:α→Prop} {a b:List α} (h1:∀ e∈a,p e) (h2:∀ e∈b,p e):∀ e∈a++b,p e:=fun e he=>(List.mem_append.1 he).elim (h1 e) (h2 e)
theorem dO {α:Type} {p:α→Prop} {a:α} {l:List α} (h1:p a) (h2:∀ e∈l,p e):∀ e∈a::l,p e:=fun e he=>(List.mem_cons.1 he).elim (fun h=>h▸h1) (h2 e)
theorem all_none {α:Type} {p:α→Prop}:∀ e∈([]:List α),p e:=fun e he=>by simp at he
end Ev
end Go
end
end
section
section
namespace Go
namespace Ev
variable {P:Program} {inv:Iv}
abbrev J9:=List Pre × T Value × Nat
section
variable (P:Program) (inv:Iv) (c:bI) (f:FuncId) (n:Nat) (h:H) (nb:Nat) (e:TypeId) (z:Nat)
def bI.PM (sts:List Pre) (t:T Value) (nx:Nat) (l':J9):Bool:=
 match bI.outs P inv c f n h nb e z t nx sts with
 | some os=>bI.Qv h nb e z l'.1 l'.2.1 l'.2.2 os&&Nat.ble nx l'.2.2
 | none=>false
inductive bI.Chain:J9→List J9→Prop
 | one (l:J9):bI.Chain l []
 | cons {l l':J9} {ls:List J9} (hs:∀ p∈l.1,bI.PM P inv c f n h nb e z [p] l.2.1 l.2.2 l'=true) (hn:l.2.2≤l'.2.2) (hc:bI.Chain l' ls):bI.Chain l (l'::ls)
def bI.last:J9→List J9→J9
 | l,[]=>l
 | _,l'::ls=>bI.last l' ls
end
section
variable {c:bI} {f:FuncId} {n:Nat} {h:H} {nb:Nat} {e:TypeId} {z:Nat}
theorem bI.Chain.le:∀ {l:J9} {ls:List J9},bI.Chain P inv c f n h nb e z l ls→l.2.2≤(bI.last l ls).2.2
 | _,_,.one _=>Nat.le_refl _
 | _,_,.cons _ hn hc=>Nat.le_trans hn hc.le
theorem bI.QT {sts:List Pre} {t:T Value} {nx:Nat} {l':J9} (hs:bI.PM P inv c f n h nb e z sts t nx l'=true):nx≤l'.2.2∧∀ p∈sts,p.2≠[]∧∀ x q,(x,q)∈takes p.2 →
  ∃ t' h',fQ P inv f n none c.lb ⟨t,⟨T.put T.deep h.t nb (some (.half (p.1++x) q e z)),nx,[]⟩,[]⟩=some (.normal,⟨t',h',[]⟩)∧je uz t' l'.2.1=true∧∃ p'∈l'.1,(bI.st nb e z p' l'.2.2 l'.2.1).Ba h [nb] h':=by
 unfold bI.PM at hs
 split at hs
 case h_2=>cases hs
 rename_i os eo
 simp only [Bool.and_eq_true] at hs
 refine ⟨Nat.le_of_ble_eq_true hs.2,fun p hp=>?_⟩
 obtain ⟨hq0,hout⟩:=bI.qj eo p hp
 refine ⟨hq0,fun x q hx=>?_⟩
 obtain ⟨t2,h2,g1,g2⟩:=hout x q hx
 have hty:=List.all_eq_true.1 (show os.all _=true from hs.1) _ g2
 simp only [Bool.and_eq_true] at hty
 obtain ⟨p',hp',htk⟩:=List.any_eq_true.1 hty.2
 exact ⟨t2,h2,g1,hty.1,p',hp',Cst.pK qA htk⟩
theorem bI.split {p:Pre} {nx:Nat} {t:T Value} (hb:nb<top) (hk:(h.get nb).isSome=true) (hnx:h.next≤nx) {ρ0 ρ:aY} {w0 w:World} (A:(bI.st nb e z p nx t).At ρ0 h w0 [nb] ρ w) (hq0:p.2≠[]) :
  ∃ x q,(x,q)∈takes p.2∧(bI.st nb e z (p.1++x,q) nx t).At ρ0 h w0 [nb] ρ w:=by
 have hgp:((bI.st nb e z p nx t).h0 h).get nb=some (.half p.1 p.2 e z):=by
  show (kX _ h.t).get nb=_
  simp only [bI.st,kX]
  rw [T.get_put _ _ _ _ _ (aO hb),if_pos rfl]
 obtain ⟨x0,k0,o',g1,g2,g3⟩:=A.hr.ob nb _ hgp
 obtain ⟨x,q,hxq,g4⟩:=g3.Ap hq0
 have okx:=bI.wC (e:=e) (z:=z) (p:=(p.1++x,q)) (t:=t) hb hk hnx
 refine ⟨x,q,hxq,A.known okx rfl ?_⟩
 have hgx:∀ y,((bI.st nb e z (p.1++x,q) nx t).h0 h).get y=if y=nb then some (.half (p.1++x) q e z) else h.get y:=fun y=>by
  show (kX _ h.t).get y=_
  simp only [bI.st,kX]
  exact T.get_put _ _ _ _ _ (aO hb)
 have hgo:∀ y,((bI.st nb e z p nx t).h0 h).get y=if y=nb then some (.half p.1 p.2 e z) else h.get y:=fun y=>by
  show (kX _ h.t).get y=_
  simp only [bI.st,kX]
  exact T.get_put _ _ _ _ _ (aO hb)
 have known:∀ y,(((bI.st nb e z (p.1++x,q) nx t).h0 h).get y).isSome=true→(((bI.st nb e z p nx t).h0 h).get y).isSome=true:=fun y hy=>by
  rw [hgx] at hy
  rw [hgo]
  split at hy
  ·rename_i ey;rw [if_pos ey];rfl
  ·rename_i ey;rw [if_neg ey];exact hy
 refine ⟨A.hr.dH,fun y oy hy=>?_,fun y y' m l l' h1 h2 h3 h4=>A.hr.inj y y' m l l' (known y h1) (known y' h2) h3 h4⟩
 rw [hgx] at hy
 split at hy
 ·rename_i ey
  cases hy
  subst ey
  exact ⟨x0,k0,o',g1,g2,g4⟩
 ·rename_i ey
  exact A.hr.ob y oy (by rw [hgo,if_neg ey];exact hy)
set_option maxHeartbeats 1000000 in
theorem bI.Chain.go (hI:iH P inv) (hD:fF P inv) (hb:nb<top) (hk:(h.get nb).isSome=true) {ρ0:aY} {w0:World} {hi:Nat} (hr0:HR ρ0 h w0) (hu:gK ρ0 h.next hi) {b:Frame} {kk:List Item} {cs:List Frame} :
  ∀ {l:J9} {ls:List J9},bI.Chain P inv c f n h nb e z l ls→h.next≤l.2.2→(bI.last l ls).2.2≤hi→∀ p∈l.1,∀ (ρ:aY) (a:Act) (w:World),(bI.st nb e z p l.2.2 l.2.1).At ρ0 h w0 [nb] ρ w →
   Sits ρ f n none ⟨l.2.1,(bI.st nb e z p l.2.2 l.2.1).h0 h,[]⟩ b a →
   ∃ pF∈(bI.last l ls).1,∃ ρ' a' w',Steps P (lone (b.atR a (.code c.lb :: .inLoop c.lb::kk)) cs w) (lone (b.atR a' (.code c.lb :: .inLoop c.lb::kk)) cs w')∧(bI.st nb e z pF (bI.last l ls).2.2 (bI.last l ls).2.1).At ρ0 h w0 [nb] ρ' w' ∧
    Sits ρ' f n none ⟨(bI.last l ls).2.1,(bI.st nb e z pF (bI.last l ls).2.2 (bI.last l ls).2.1).h0 h,[]⟩ b a'
 | l,_,.one _,hnx,hhi,p,hp,ρ,a,w,A,hs=>⟨p,hp,ρ,a,w,.refl _ _,A,hs⟩
 | l,_,.cons (l':=l') (ls:=ls) hst hn hc,hnx,hhi,p,hp,ρ,a,w,A,hs=>by
  have hle:=hc.le
  have hhi':(bI.last l' ls).2.2≤hi:=hhi
  obtain ⟨_,hmem⟩:=bI.QT (hst p hp)
  obtain ⟨hq0,hout⟩:=hmem p (List.mem_singleton.2 rfl)
  obtain ⟨x,q,hxq,Ax⟩:=bI.split hb hk hnx A hq0
  obtain ⟨t2,h2,hcode,hsub,p',hp',tk⟩:=hout x q hxq
  have okp:=bI.wC (e:=e) (z:=z) (p:=p) (t:=l.2.1) hb hk hnx
  have okx:=bI.wC (e:=e) (z:=z) (p:=(p.1++x,q)) (t:=l.2.1) hb hk hnx
  have ok':=bI.wC (e:=e) (z:=z) (p:=p') (nx:=l'.2.2) (t:=l'.2.1) hb hk (Nat.le_trans hnx hn)
  obtain ⟨m1,hR⟩:=eH hI hD c.lb _ _ hcode
  have hh2:h2.next≤l'.2.2:=tk.next
  have hux:gK ρ l.2.2 hi:=A.QL okp hu
  obtain ⟨ρ1,a1,w1,r1,r2,r3,r4⟩:=hR ρ b a (.inLoop c.lb::kk) cs w ⟨hs.DT,hs.kind,hs.DJ,hs.tmps,hs.marks⟩ Ax.hr (hux.sub (Nat.le_refl _) (by show h2.next≤hi;omega))
  have r1:Steps P _ _:=r1
  have A':=Ax.step okx ok' hr0 hu (Nat.le_trans hle hhi') r2 r3 tk
  have hs':Sits ρ1 f n none ⟨l'.2.1,(bI.st nb e z p' l'.2.2 l'.2.1).h0 h,[]⟩ b a1:=⟨r4.DT,r4.kind,r4.DJ,r4.tmps.je hsub,r4.marks⟩
  obtain ⟨pF,hpF,ρ2,a2,w2,s1,s2,s3⟩:=bI.Chain.go hI hD hb hk hr0 hu (b:=b) (kk:=kk) (cs:=cs) hc (Nat.le_trans hnx hn) hhi' p' hp' ρ1 a1 w1 A' hs'
  exact ⟨pF,hpF,ρ2,a2,w2,r1.trans (.head stepR_inLoop s1),s2,s3⟩
end
def bI.endsB (P:Program) (inv:Iv) (c:bI) (f:FuncId) (args:List Value) (h:H) (nb:Nat) (q:List (List Value)) (e:TypeId) (z:Nat) (l lF:J9) (pre:List Value) (v:Value) (nxE:Nat):Bool:=
 match qI 0 args .nil,Nat.blt nb top,q with
 | some ta,true,_::_=>match fQ P inv f (args.length+(c.fn.ntmps - args.length)) none c.c0 ⟨ta,⟨h.t,h.next,[]⟩,[]⟩ with
  | some (.normal,⟨t0,h0,[]⟩)=>match h0.log,Nat.beq h0.next h.next,je uz t0 l.2.1,Nat.beq l.2.2 h.next,(takes q).all (fun p=>l.1.any fun s=>lK p.1 s.1&&vJ lK p.2 s.2) with
   | [],true,true,true,true=>match fQ P inv f (args.length+(c.fn.ntmps - args.length)) none c.lb ⟨lF.2.1,⟨T.put T.deep h.t nb (some (.half pre [] e z)),lF.2.2,[]⟩,[]⟩ with
    | some (.exit i,⟨t2,h2,[]⟩)=>match mO P c.fn (.normal,⟨t2,bI.O7 h nb e z pre nxE,[]⟩) with
     | some (u,h3)=>Nat.beq i c.ry&&(Cst.mk [(nb,.cells pre e (some z))] nxE t2).yG Oz h [nb] h2&&uz u v&&Nat.beq h2.next nxE&&c.fn.results.isEmpty
     | none=>false
    | _=>false
   | _,_,_,_,_=>false
  | _=>false
 | _,_,_=>false
theorem OB {fn:Func} {t:T Value} {hE h3:H} {u:Value} (hres:fn.results.isEmpty=true) (e:mO P fn (.normal,⟨t,hE,[]⟩)=some (u,h3)):h3=hE:=by
 unfold mO at e
 simp only [tJ] at e
 split at e
 ·cases e;rfl
 ·cases e
set_option maxHeartbeats 1000000 in
theorem bI.told (hI:iH P inv) (hD:fF P inv) {c:bI} {f:FuncId} (hc:c.OK P f) {args:List Value} {h:H} {nb:Nat} {q:List (List Value)} {e:TypeId} {z:Nat} {l:J9} {ls:List J9} {pre:List Value} {v:Value} {nxE:Nat} (hg:h.get nb=some (.lq q e z))
  (hch:bI.Chain P inv c f (args.length+(c.fn.ntmps - args.length)) h nb e z l ls) (hlast:(bI.last l ls).1=[(pre,[])]) (hends:bI.endsB P inv c f args h nb q e z l (bI.last l ls) pre v nxE=true):aV P f args h v (bI.O7 h nb e z pre nxE):=by
 unfold bI.endsB at hends
 split at hends
 case h_2=>cases hends
 rename_i ta q1 q2 hta hb
 rw [Nat.blt_eq] at hb
 split at hends
 case h_2=>cases hends
 rename_i t0 h0 e0
 split at hends
 case h_2=>cases hends
 rename_i hl0 hn0 hsub0 hnx0 hall
 split at hends
 case h_2=>cases hends
 rename_i i t2 h2 ex
 split at hends
 case h_2=>cases hends
 rename_i u h3 elv
 simp only [Bool.and_eq_true] at hends
 obtain ⟨⟨⟨⟨hbid,htk⟩,huv⟩,hnE⟩,hres⟩:=hends
 obtain rfl:=iU huv
 obtain rfl:=Nat.eq_of_beq_eq_true hnE
 have hn0:=Nat.eq_of_beq_eq_true hn0
 have hnx0:=Nat.eq_of_beq_eq_true hnx0
 obtain rfl:=Nat.eq_of_beq_eq_true hbid
 have tk:=Cst.pK qA htk
 have h3e:=OB hres elv
 rw [h3e] at elv
 have hk:(h.get nb).isSome=true:=by rw [hg];rfl
 obtain ⟨m0,r0⟩:=eH hI hD c.c0 _ _ e0
 obtain ⟨mx,rx⟩:=eH hI hD c.lb _ _ ex
 generalize hlF:bI.last l ls=lF at *
 have mx:lF.2.2≤h2.next:=mx
 have hle:l.2.2≤lF.2.2:=by rw [←hlF];exact hch.le
 refine uS (x:=(.normal,⟨t2,bI.O7 h nb e z pre h2.next,[]⟩)) hc.ff hc.fb hc.fname hta ⟨by show h.next≤h2.next;omega,fun ρ b a k cs w hs hr hu=>?_⟩ elv
 have hu:gK ρ h.next h2.next:=hu
 have hr':HR ρ ⟨h.t,h.next,[]⟩ w:=⟨hr.dH,hr.ob,hr.inj⟩
 obtain ⟨ρ1,a1,w1,g1,g2,g3,g4⟩:=r0 ρ b a (.code (.block c.ry (.loop c.lb))::k) cs w ⟨hs.DT,hs.kind,hs.DJ,hs.tmps,hs.marks⟩ hr' (hu.sub (Nat.le_refl _) (by show h0.next≤h2.next;omega))
 have g1:Steps P _ _:=g1
 obtain ⟨l0,eL,_,_,_,hget,_⟩:=id g2.log
 have eL:h0.log=l0++[]:=eL
 rw [hl0] at eL
 have hl0':l0=[]:=by simpa using eL.symm
 subst hl0'
 have hget:∀ y,h0.get y=h.get y:=fun y=>hget y (by simp)
 have hgnb:h0.get nb=some (.lq (q1::q2) e z):=by rw [hget];exact hg
 obtain ⟨x0,k0,o',o1,o2,o3⟩:=g3.ob nb _ hgnb
 obtain ⟨x,q',hxq,o4⟩:=o3.TG.Ap (by simp)
 obtain ⟨s,hsm,hse⟩:=List.any_eq_true.1 (List.all_eq_true.1 hall _ hxq)
 simp only [Bool.and_eq_true] at hse
 have hse1:x=s.1:=fM hse.1
 have hse2:=kE xg hse.2
 have o5:OR ρ1 k0 (.half s.1 s.2 e z) o':=by
  obtain ⟨p,d,d2,r,z1,z2⟩:=o4
  rw [List.nil_append,hse1] at z2
  exact ⟨p,d,d2,r,hse2.symm.trans z1,z2⟩
 have okx:=bI.wC (e:=e) (z:=z) (p:=s) (nx:=h.next) (t:=l.2.1) hb hk (Nat.le_refl _)
 have hgx:∀ y,((bI.st nb e z s h.next l.2.1).h0 h).get y=if y=nb then some (.half s.1 s.2 e z) else h.get y:=fun y=>by
  show (kX _ h.t).get y=_
  simp only [bI.st,kX]
  exact T.get_put _ _ _ _ _ (aO hb)
 have hrx:HR ρ1 ((bI.st nb e z s h.next l.2.1).h0 h) w1:=by
  have known:∀ y,(((bI.st nb e z s h.next l.2.1).h0 h).get y).isSome=true→(h0.get y).isSome=true:=fun y hy=>by
   rw [hgx] at hy
   rw [hget]
   split at hy
   ·rename_i ey;rw [ey,hg];rfl
   ·exact hy
  refine ⟨g3.dH,fun y oy hy=>?_,fun y y' m l l' h1 h2 h3 h4=>g3.inj y y' m l l' (known y h1) (known y' h2) h3 h4⟩
  rw [hgx] at hy
  split at hy
  ·rename_i ey
   cases hy
   subst ey
   exact ⟨x0,k0,o',o1,o2,o5⟩
  ·rename_i ey
   exact g3.ob y oy (by rw [hget];exact hy)
 have hAx:(bI.st nb e z s h.next l.2.1).At ρ h w [nb] ρ1 w1:=by
  refine ⟨?_,hrx⟩
  refine g2.KN (h2:=(bI.st nb e z s h.next l.2.1).h h [nb]) (l:=[]) (L:=[nb]++List.range' h.next (h.next - h.next)) (by rw [hl0];rfl) (by simp [Cst.h,bI.st]) (by show h0.next≤h.next;omega) (fun b hb=>by simp at hb) (fun b hb'=>?_) fun b hb'=>?_
  ·simp at hb'
   subst hb'
   exact .inl hk
  ·have hb':b≠nb:=fun e1=>hb' (by simp [e1])
   have:=hgx b
   rw [if_neg hb'] at this
   exact this
 have hAx':(bI.st nb e z s l.2.2 l.2.1).At ρ h w [nb] ρ1 w1:=by rw [hnx0];exact hAx
 obtain ⟨pF,hpF,ρ2,a2,w2,s1,s2,s3⟩:=hch.go hI hD hb hk hr hu (b:=b) (kk:=.inBlock c.ry::k) (cs:=cs) (by omega) (by rw [hlF];exact mx) s hsm ρ1 a1 w1 hAx' ⟨g4.DT,g4.kind,g4.DJ,g4.tmps.je hsub0,g4.marks⟩
 rw [hlF] at hpF s2 s3
 rw [hlast] at hpF
 obtain rfl:=List.mem_singleton.1 hpF
 have okF:=bI.wC (e:=e) (z:=z) (p:=(pre,[])) (nx:=lF.2.2) (t:=lF.2.1) hb hk (by omega)
 obtain ⟨ρ3,a3,w3,p1,p2,p3,p4⟩:=rx ρ2 b a2 (.inLoop c.lb :: .inBlock c.ry::k) cs w2 ⟨s3.DT,s3.kind,s3.DJ,s3.tmps,s3.marks⟩ s2.hr (s2.QL okF hu)
 have okE:(Cst.mk [(nb,.cells pre e (some z))] h2.next t2).OK h [nb]:=by
  refine ⟨fun q hq=>?_,fun q hq=>?_,fun b hb'=>?_,fun b hb'=>?_,by show h.next≤h2.next;omega⟩
  ·obtain rfl:=List.mem_singleton.1 hq;exact hb
  ·obtain rfl:=List.mem_singleton.1 hq;exact .inl (by simp)
  ·obtain rfl:=List.mem_singleton.1 hb';exact hk
  ·obtain rfl:=List.mem_singleton.1 hb';exact ⟨_,List.mem_singleton.2 rfl,rfl⟩
 have AE:=s2.step okF okE hr hu (Nat.le_refl _) p2 p3 tk
 refine ⟨ρ3,a3,w3,?_,AE.TM.yz h.log,AE.hr.yz,p4.DT,p4.kind,p4.DJ,p4.tmps,p4.marks⟩
 have hx:=p1.1 k (by simp [exitTo])
 exact Steps.trans (.head stepR_seq g1) (.head stepR_block (.head stepR_loop (s1.trans hx)))
end Ev
end Go
end
end
section
section
namespace Go
namespace Ev
variable {P:Program}
structure nS where
 f:FuncId
 args:List Value
 nb:Nat
 q:List (List Value)
 e:TypeId
 z:Nat
 v:Value
 pre:List Value
 nx:Nat
 nx':Nat
def nS.h (s:nS):H:=⟨T.put T.deep .nil s.nb (some (.lq s.q s.e s.z)),s.nx,[]⟩
structure nS.ok (P:Program) (s:nS):Prop where
 does:aV P s.f s.args s.h s.v (bI.O7 s.h s.nb s.e s.z s.pre s.nx')
 low:s.nb<top
theorem nS.get (s:nS) (hl:s.nb<top) (b:Nat):s.h.get b=if b=s.nb then some (.lq s.q s.e s.z) else none:=by
 have:s.h.get b=if b=s.nb then some (.lq s.q s.e s.z) else (T.nil:T Ob).get b:=T.get_put _ _ _ _ _ (aO hl)
 rw [this]
 rfl
theorem nS.Ya {s:nS} (ok:s.ok P) {h:H} {q':List (List Value)} (hn:h.next≤s.nx) (hg:h.get s.nb=some (.lq q' s.e s.z)) (hp:q'.Perm s.q):aV P s.f s.args h s.v ⟨T.put T.deep h.t s.nb (some (.cells s.pre s.e (some s.z))),s.nx',s.nb::List.range' s.nx (s.nx' - s.nx)++h.log⟩:=by
 obtain ⟨hF,hl⟩:=ok
 obtain ⟨n1,fn,c,q1,q2,q3,_⟩:=id hF
 have n1:s.nx≤s.nx':=n1
 refine aV.E5 (Nat.le_trans hn n1) q1 q2 q3 fun {ρ args' w} ha hr hu=>?_
 have hu:gK ρ h.next s.nx':=hu
 obtain ⟨x0,k0,o0,r1,r2,r3⟩:=hr.ob s.nb _ hg
 have hr0:HR ρ s.h w:=by
  refine ⟨hr.dH,fun b o hb=>?_,fun b c x k l hb hc _ _=>?_⟩
  ·rw [nS.get s hl] at hb
   split at hb
   ·rename_i e;cases hb;subst e;exact ⟨x0,k0,o0,r1,r2,r3.KG hp⟩
   ·cases hb
  ·rw [nS.get s hl] at hb hc
   split at hb
   ·rename_i e1
    split at hc
    ·rename_i e2;rw [e1,e2]
    ·cases hc
   ·cases hb
 refine (hF.calls ha hr0 (hu.sub hn (Nat.le_refl _))).mono ?_
 rintro en w' ⟨v',ρ',rfl,s1,s2,s3⟩
 obtain ⟨l,l1,l2,l3,l4,l5,l6⟩:=s1.log
 have hl1:s.nb::List.range' s.nx (s.nx' - s.nx)=l:=by
  have l1:s.nb::List.range' s.nx (s.nx' - s.nx)++[]=l++[]:=l1
  exact List.append_cancel_right l1
 subst hl1
 have hrange:∀ b,b∈List.range' s.nx (s.nx' - s.nx)↔s.nx≤b∧b<s.nx':=fun b=>by rw [List.mem_range'_1];omega
 have hge:∀ b,(⟨T.put T.deep h.t s.nb (some (.cells s.pre s.e (some s.z))),s.nx',s.nb::List.range' s.nx (s.nx' - s.nx)++h.log⟩:H).get b=if b=s.nb then some (.cells s.pre s.e (some s.z)) else h.get b:=fun b=>T.get_put _ _ _ _ _ (aO hl)
 have hgE:(bI.O7 s.h s.nb s.e s.z s.pre s.nx').get s.nb=some (.cells s.pre s.e (some s.z)):=by
  show (T.put T.deep _ s.nb _).get s.nb=_
  rw [T.get_put _ _ _ _ _ (aO hl),if_pos rfl]
 obtain ⟨x1,k1,o1,t1,t2,t3⟩:=s2.ob s.nb _ hgE
 have hnb:ρ' s.nb=ρ s.nb:=by
  rcases s1.le s.nb with e | e | e
  ·rw [r1] at e;cases e
  ·exact e
  ·rw [t1] at e;cases e
 have hout:∀ b o,b≠s.nb→h.get b=some o→b∉s.nb::List.range' s.nx (s.nx' - s.nx):=fun b o hb hgb hm=>by
  rcases List.mem_cons.1 hm with h1 | h1
  ·exact hb h1
  ·obtain ⟨y,ky,_,g1,_⟩:=hr.ob b o hgb
   have:=(hrange b).1 h1
   rw [hu b (by omega) this.2] at g1;cases g1
 have hsame:∀ b o,b≠s.nb→h.get b=some o→ρ' b=ρ b:=fun b o hb hgb=>by
  obtain ⟨y,ky,_,g1,_⟩:=hr.ob b o hgb
  exact l6 b (hout b o hb hgb) (by rw [g1];exact fun h=>by cases h)
 have hall:∀ b,(h.get b).isSome=true→ρ' b=ρ b:=fun b hb=>by
  obtain ⟨o,ho⟩:=Option.isSome_iff_exists.1 hb
  by_cases e:b=s.nb
  ·rw [e];exact hnb
  ·exact hsame b o e ho
 have known:∀ b,((⟨T.put T.deep h.t s.nb (some (.cells s.pre s.e (some s.z))),s.nx',s.nb::List.range' s.nx (s.nx' - s.nx)++h.log⟩:H).get b).isSome=true→(h.get b).isSome=true:=fun b hb=>by
  rw [hge] at hb
  split at hb
  ·rename_i e;rw [e,hg];rfl
  ·exact hb
 refine ⟨v',ρ',rfl,⟨s1.le,Nat.le_trans hn n1,fun b hb hx=>s1.born b hb (by
  have hx:b<h.next∨s.nx'≤b:=hx
  show b<s.nx∨s.nx'≤b
  omega),s1.size,s.nb::List.range' s.nx (s.nx' - s.nx),rfl,l2,l3,fun b hb=>?_,fun b hb=>?_,l6⟩,⟨s2.dH,fun b o hb=>?_,fun b c x k l hb hc hx hy=>?_⟩,s3⟩
 ·rcases List.mem_cons.1 hb with rfl | h1
  ·exact .inl (by rw [hg];rfl)
  ·have:=(hrange b).1 h1
   exact .inr ⟨by omega,this.2⟩
 ·rw [hge,if_neg fun e=>hb (by rw [e];exact List.mem_cons_self ..)]
 ·rw [hge] at hb
  split at hb
  ·rename_i e;cases hb;subst e;exact ⟨x1,k1,o1,t1,t2,t3⟩
  ·rename_i e
   obtain ⟨x,k,o',g1,g2,g3⟩:=hr.ob b o hb
   refine ⟨x,k,o',by rw [hsame b o e hb];exact g1,l2 x o' g2 fun c m hc hcx=>?_,g3.mono s1.le⟩
   rcases List.mem_cons.1 hc with rfl | h1
   ·exact e (hr.inj b s.nb x k m (by rw [hb];rfl) (by rw [hg];rfl) g1 hcx)
   ·have:=(hrange c).1 h1
    rw [hu c (by omega) this.2] at hcx;cases hcx
 ·have h1:=known b hb
  have h2:=known c hc
  rw [hall b h1] at hx
  rw [hall c h2] at hy
  exact hr.inj b c x k l h1 h2 hx hy
def YL (s:nS) (f:FuncId) (args:List Value) (h:H):Bool:=match Nat.beq s.f f with
 | true=>match Nat.ble h.next s.nx with
  | true=>match lK s.args args with
   | true=>match h.get s.nb with
    | some (.lq q' e' z')=>vJ lK q' s.q&&Nat.beq e' s.e&&Nat.beq z' s.z
    | _=>false
   | false=>false
  | false=>false
 | false=>false
def Vq (f:FuncId) (args:List Value) (h:H):List nS→Option (Option (Value × H))
 | []=>none
 | s::es=>match YL s f args h with
  | true=>some (some (s.v,⟨T.put T.deep h.t s.nb (some (.cells s.pre s.e (some s.z))),s.nx',s.nb::List.range' s.nx (s.nx' - s.nx)++h.log⟩))
  | false=>Vq f args h es
def I9 (es:List nS):Hook:=fun f args h=>Vq f args h es
theorem NP {es:List nS} (hok:∀ s∈es,s.ok P):df P (I9 es):=by
 intro f args h v h' hf
 unfold I9 at hf
 induction es with
 | nil=>cases hf
 | cons s es ih=>
  simp only [Vq] at hf
  split at hf
  ·rename_i hfit
   simp only [Option.some.injEq,Prod.mk.injEq] at hf
   obtain ⟨rfl,rfl⟩:=hf
   unfold YL at hfit
   split at hfit
   case h_2=>cases hfit
   rename_i h1
   split at hfit
   case h_2=>cases hfit
   rename_i h2
   split at hfit
   case h_2=>cases hfit
   rename_i h3
   split at hfit
   case h_2=>cases hfit
   rename_i q' e' z' hg
   simp only [Bool.and_eq_true] at hfit
   obtain rfl:=Nat.eq_of_beq_eq_true h1
   obtain rfl:=fM h3
   have e1:=Nat.eq_of_beq_eq_true hfit.1.2
   have e2:=Nat.eq_of_beq_eq_true hfit.2
   subst e1 e2
   exact nS.Ya (hok s (by simp)) (Nat.le_of_ble_eq_true h2) hg (kE xg hfit.1.1)
  ·exact ih (fun s hs=>hok s (by simp [hs])) hf
end Ev
end Go
end
end
