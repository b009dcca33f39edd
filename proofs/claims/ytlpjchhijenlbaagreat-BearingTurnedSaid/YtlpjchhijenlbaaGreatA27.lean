/- Of the proof of BearingTurned: Cev1 Cev2 Cev3 Cev4 Cev5 Cev6 Cev7 Cev8 Cev9 Cev10 -/
import Derived.Test.YtlpjchhijenlbaaGreatA09
import Derived.Test.YtlpjchhijenlbaaGreatA16
import Derived.Test.YtlpjchhijenlbaaGreatA19
import Derived.Test.YtlpjchhijenlbaaGreatA10
set_option linter.unusedSectionVars false
set_option linter.unusedVariables false
set_option linter.unusedSimpArgs false
section
section
namespace Go
namespace Ev
open Go.Conc Go.Ren
variable {P:Program} {L N:List FuncId}
def dG (v v':World):Prop:=∀ (b:Nat) (o:Obj),v.heap[b]? = some o→aU o=true→∀ o':Obj,v'.heap[b]? = some o'→aU o'=true
theorem dG.of {v v':World} (h:v'.heap=v.heap):dG v v':=fun b o h1 h2 o' h3=>by
 rw [h,h1] at h3
 rw [←Option.some.inj h3];exact h2
theorem dG.Jq {ρ ρ':aY} {h h':H} {v v':World} (s:Stp ρ h v ρ' h' v') (hr:HR ρ h v) (hu:gK ρ h.next h'.next):dG v v':=fun b o h1 h2 o' h3=>by
 obtain ⟨l,_,f1,_,o1,_,_⟩:=s.log
 have h4:=f1 b o h1 fun c k hc hat=>by
  rcases o1 c hc with h5 | ⟨h5,h6⟩
  ·obtain ⟨ob,h7⟩:=Option.isSome_iff_exists.1 h5
   obtain ⟨x,k',o2,h8,h9,h10⟩:=hr.ob c ob h7
   rw [hat] at h8
   cases h8
   rw [h1] at h9
   cases h9
   cases ob with
   | cells=>obtain ⟨_,_,rfl,_⟩:=h10;cases h2
   | map=>obtain ⟨rfl,_⟩:=h10;cases h2
   | iter=>obtain ⟨_,rfl,_⟩:=h10;cases h2
   | loop=>obtain ⟨_,_,rfl,_⟩:=h10;cases h2
   | calls=>have e:o=_:=h10;subst e;cases h2
   | Wv=>obtain ⟨_,_,_,_,rfl,_⟩:=h10;cases h2
   | lq=>obtain ⟨_,_,_,_,rfl,_⟩:=h10;cases h2
   | half=>obtain ⟨_,_,_,_,_,rfl,_⟩:=h10;cases h2
   | shut=>obtain ⟨_,_,_,rfl,_⟩:=h10;cases h2
  ·rw [hu c h5 h6] at hat;cases hat
 rw [h4] at h3
 rw [←Option.some.inj h3];exact h2
def kH (P:Program) (L N:List FuncId) (K:Frame→List Frame→World→Prop):Prop:=
 ∀ fr cs v,@iG (aK P L N) P (· ∈ L) (fun g v'=>∃ fr' cs',g=G fr' cs'∧K fr' cs' v'∧dG v v') (G fr cs) v→K fr cs v
def qM (cs:List Frame):Prop:=∃ l,cs=l++[bottom]
theorem qM.ne {cs:List Frame} (h:qM cs):cs≠[]:=by obtain ⟨l,rfl⟩:=h;simp
theorem qM.cons {cs:List Frame} (h:qM cs) (c:Frame):qM (c::cs):=by obtain ⟨l,rfl⟩:=h;exact ⟨c::l,rfl⟩
variable {K:Frame→List Frame→World→Prop}
theorem kH.own (hK:kH P L N K) {fr:Frame} {cs:List Frame} {v:World} (hf:@Fit (aK P L N) P (G fr cs))
  (h:∀ t,∃ fr' cs' v' es,stepG P true (G fr cs) (wt v t) = .go (G fr' cs') v' es∧dB fr'.mode∧qM cs'∧(Ren.Clean (· ∈ L) v→Ren.Clean (· ∈ L) v')∧dG v v'∧K fr' cs' v'):K fr cs v:=by
 have h1:=fun t=>Classical.choose_spec (h t)
 have h2:=fun t=>Classical.choose_spec (h1 t)
 have h3:=fun t=>Classical.choose_spec (h2 t)
 have h4:=fun t=>Classical.choose_spec (h3 t)
 exact hK fr cs v (@iG.step (aK P L N) _ _ _ _ _ hf (fun t=>G (Classical.choose (h t)) (Classical.choose (h1 t))) (fun t=>Classical.choose (h2 t)) (fun t=>Classical.choose (h3 t)) (fun t=>(h4 t).1)
  (fun t=>⟨rfl,.inl rfl,(h4 t).2.1⟩) (fun t=>(h4 t).2.2.2.1) (fun t=>(h4 t).2.2.1) (fun _=>rfl) (fun t=>@iG.done (aK P L N) _ _ _ _ _ ⟨_,_,rfl,(h4 t).2.2.2.2.2,(h4 t).2.2.2.2.1⟩))
theorem kH.call (hK:kH P L N K) {fn:FuncId} {args:Array Value} {c:Frame} {cs:List Frame} {v:World} {Post:Value→World→Prop} (hfn:fn∈L) (hargs:GK (· ∈ L) args) (hcs:cs≠[]) (hP:∀ x v t,Post x v→Post x (wt v t))
  (hc:∀ t,Calls P fn args (wt v t) fun e w'=>∃ x,e = .returned x∧Post x w') (hst:∀ x v',Post x v'→dG v v') (next:∀ x v',Post x v'→K (c.finish x) cs v'):K (Frame.enter P fn args .normal) (c::cs) v:=
 hK _ _ _ (@iG.call (aK P L N) _ _ _ _ _ _ _ _ Post hfn hargs hcs hP hc fun x v' hp _=>@iG.done (aK P L N) _ _ _ _ _ ⟨_,_,rfl,next x v' hp,hst x v' hp⟩)
theorem ku {b:Frame} {a:Act} {k:List Item} {cs:List Frame} {w w':World} {ops:Array Oper} {i:Nat} {rest:List Nat} {o:Oper} {M:Next} {v:Value} (ho:ops[i]? = some o) (hw:Region.wanted o (yielded ops a.tmps)=true)
  (hd:∀ c,o.op ≠ .defer c) (hr:(execOp a.eval o).run P w = .ok M w') (hN:Gives M v) :
  ∃ es,stepG P true (G (b.atR a (.inRegion ops (i::rest)::k)) cs) w = .go (G (b.atR (a.put o.dst v) (.inRegion ops rest::k)) cs) w' es:=by
 have hf:=Frame.finish_atR b a ops i rest k v
 rw [ho] at hf
 simp only [Option.bind_some] at hf
 have h1:=stepGR_op (P:=P) (b:=b) (a:=a) (k:=k) (cs:=cs) (w:=w) (rest:=rest) ho hw
 unfold Conc.G
 rw [h1,Oper.semAt_eq _ _ _ hd,← hf]
 rcases hN with rfl | ⟨rfl,rfl⟩
 ·simp only [stepG.apply,Sem.runT_eq,hr,if_true,GStep.after]
  exact ⟨_,rfl⟩
 ·simp only [stepG.apply,Sem.runT_eq,hr,if_true,GStep.after]
  exact ⟨_,rfl⟩
def Ou:Item→Bool
 | .inRegion _ []=>true
 | .inRegion _ (_::_)=>false
 | .code c=>match c with | .rangeFunc ..=>false | _=>true
 | .call ..=>false
 | _=>true
theorem kS {b:Frame} {a:Act} {cs:List Frame} {i:Item} {k:List Item} (hi:Ou i=true):@Fit (aK P L N) P (G (b.atR a (i::k)) cs):=by
 refine @Vp P (aK P L N) _ _ _ _ rfl rfl ?_
 cases i with
 | inRegion ops l=>cases l<;>simp_all [Ou]
 | code c=>cases c<;>simp_all [Ou]
 | call=>simp_all [Ou]
 | _=>trivial
theorem jb {b:Frame} {a:Act} {cs:List Frame} {k:List Item} {ops:Array Oper} {i:Nat} {rest:List Nat} {o:Oper} (ho:ops[i]? = some o) (hc:FK o.op=false) (hb:gB P L o=true):@Fit (aK P L N) P (G (b.atR a (.inRegion ops (i::rest)::k)) cs):=
 Vo rfl rfl ho hc hb
theorem kH.text (hK:kH P L N K) {b:Frame} {a:Act} {k k':List Item} {cs:List Frame} {w:World} (hcs:qM cs) (hf:@Fit (aK P L N) P (G (b.atR a k) cs))
  (h:∀ w:World,∃ es,stepG P true (G (b.atR a k) cs) w = .go (G (b.atR a k') cs) w es) (hk:∀ t,K (b.atR a k') cs (wt w t)):K (b.atR a k) cs w:=
 hK.own hf fun t=>by
  obtain ⟨es,e⟩:=h (wt w t)
  exact ⟨_,_,_,es,e,trivial,hcs,fun hc=>Ren.aX hc rfl,.of rfl,hk t⟩
end Ev
end Go
end
end
section
section
namespace Go
namespace Ev
open Go.Conc Go.Ren
variable {P:Program} {L N:List FuncId}
mutual
def jX (L:List FuncId):Value→Bool
 | .func (.func f) ⟨a⟩ ⟨b⟩=>L.contains f&&fO L a&&fO L b
 | .func _ _ _=>false
 | .agg ⟨cs⟩ | .tuple ⟨cs⟩=>fO L cs
 | .iface _ _=>false
 | _=>true
def fO (L:List FuncId):List Value→Bool
 | []=>true
 | v::l=>jX L v&&fO L l
end
theorem Pg {v:Value} (h:atom v=true):dA (· ∈ L) v:=by
 cases v with
 | pointer a=>exact xm a
 | slice a l c=>exact uZ a l c
 | map a=>exact Gl a
 | chan a=>exact Di a
 | bool b=>exact MK b
 | int k n=>exact Gm k n
 | string b=>exact Ht b
 | float k b=>exact gY rfl
 | complex k a b=>exact gY rfl
 | nilFunc=>exact gY rfl
 | nilIface=>exact gY rfl
 | func _ _ _=>cases h
 | iface _ _=>cases h
 | agg _=>cases h
 | tuple _=>cases h
mutual
theorem VR.clean {ρ:aY}:∀ {v v':Value},VR ρ v v'→jX L v=true→dA (· ∈ L) v'
 | _,_,.same h,_=>Pg h
 | _,_,.ptr _,_=>xm _
 | _,_,.slice _ _,_=>uZ _ _ _
 | _,_,.map _,_=>Gl _
 | _,_,.func ha hb,h=>by
  simp only [jX,Bool.and_eq_true] at h
  exact MJ (by simpa using h.1.1) (fun x hx=>eQ.clean ha h.1.2 x (by simpa using hx)) (fun x hx=>eQ.clean hb h.2 x (by simpa using hx))
 | _,_,.yield _,h=>by simp [jX] at h
 | _,_,.chan _,_=>Di _
 | _,_,.agg hs,h=>Ph fun x hx=>eQ.clean hs (by simpa [jX] using h) x (by simpa using hx)
 | _,_,.tuple hs,h=>JP fun x hx=>eQ.clean hs (by simpa [jX] using h) x (by simpa using hx)
theorem eQ.clean {ρ:aY}:∀ {l l':List Value},eQ ρ l l'→fO L l=true→∀ x∈l',dA (· ∈ L) x
 | _,_,.nil,_,x,hx=>by simp at hx
 | _,_,.cons hv hs,h,x,hx=>by
  simp only [fO,Bool.and_eq_true] at h
  rcases List.mem_cons.1 hx with rfl | hx
  ·exact hv.clean h.1
  ·exact eQ.clean hs h.2 x hx
end
end Ev
end Go
end
end
section
section
namespace Go
namespace Ev
open Go.Conc Go.Ren
variable {P:Program} {L N:List FuncId}
theorem Ja (w:World) (a:Addr) (v:Value) (b:Nat) (o:Obj) (h:(w.setCell a v).heap[b]? = some o):w.heap[b]? = some o ∨ ∃ c e fz,w.heap[b]? = some (.cells c e fz)∧o = .cells (if a.spot.isSome then c else c.setIfInBounds a.off v) e fz:=by
 unfold World.setCell at h
 rw [Array.getElem?_modify] at h
 split at h
 ·cases hb:w.heap[b]? with
  | none=>rw [hb] at h;cases h
  | some o0=>
   rw [hb] at h
   simp only [Option.map_some,Option.some.injEq] at h
   cases o0 with
   | cells c e fz=>exact .inr ⟨c,e,fz,rfl,h.symm⟩
   | _=>exact .inl (by rw [←h])
 ·exact .inl h
theorem rO {S:FuncId→Prop} {w:World} {a:Addr} {v:Value} (hw:Ren.Clean S w) (hv:dA S v):Ren.Clean S (w.setCell a v):=fun H H' h e b o hb=>by
 rcases Ja w a v b o hb with hb2 | ⟨c,el,fz,hb2,rfl⟩
 ·exact hw H H' h e b o hb2
 ·have h1:=hw H H' h e b _ hb2
  have h1':@vals H h c = @vals H' h c:=by
   have:Obj.cells (@vals H h c) el fz=Obj.cells (@vals H' h c) el fz:=h1
   injection this
  split
  ·exact h1
  ·show Obj.cells (@vals H h (c.setIfInBounds a.off v)) el fz=Obj.cells (@vals H' h (c.setIfInBounds a.off v)) el fz
   have h2:∀ (X:Fr),@vals X h (c.setIfInBounds a.off v)=(@vals X h c).setIfInBounds a.off (@val X h v):=fun X=>by
    unfold vals
    rw [Array.map_setIfInBounds]
   rw [h2 H,h2 H',h1',hv H H' h e]
theorem uj {S:FuncId→Prop} {a:Addr}:∀ (vs:List Value) (i:Nat) (w w':World),(∃ c e fz,w.heap[a.block]? = some (.cells c e fz))→(∀ v∈vs,dA S v)→(storeCells a vs i).run P w = .ok () w'→Ren.Clean S w→Ren.Clean S w'
 | [],i,w,w',_,_,h,hc=>by
  simp [storeCells] at h
  rw [←h];exact hc
 | v::vs,i,w,w',⟨c,e,fz,hb⟩,hv,h,hc=>by
  simp only [storeCells,Sem.run_bind] at h
  have hblk:(a.add i).block=a.block:=by
   unfold Addr.add
   split<;>rfl
  have key:(store (a.add i) v).run P w = .ok () (w.setCell (a.add i) v) ∨ ∃ hh w1,(store (a.add i) v).run P w = .halt hh w1:=by
   unfold store
   cases v with
   | agg _=>exact .inr ⟨_,_,rfl⟩
   | tuple _=>exact .inr ⟨_,_,rfl⟩
   | _=>
    simp only [Sem.run]
    split
    ·split
     ·exact .inr ⟨_,_,rfl⟩
     ·exact .inl rfl
    ·have hfar:∀ x,w.farStore P (a.add i) x (Mode.plain == .atomic) = .error (w.noCell (a.add i) "store: no such cell"):=fun x=>by
      unfold World.farStore
      rw [hblk,hb]
     rw [hfar]
     exact .inr ⟨_,_,rfl⟩
  rcases key with key | ⟨hh,w1,key⟩
  ·rw [key] at h
   simp only [Result.andThen] at h
   refine uj vs (i+1) _ w' ?_ (fun u hu=>hv u (by simp [hu])) h (rO hc (hv v (by simp)))
   unfold World.setCell
   rw [hblk,Array.getElem?_modify,if_pos rfl,hb]
   exact ⟨_,_,_,rfl⟩
  ·rw [key] at h;simp [Result.andThen] at h
end Ev
end Go
end
end
section
section
namespace Go
namespace Ev
open Go.Conc Go.Ren
variable {P:Program} {L N:List FuncId} {ρ:aY} {ρE:Operand→Option Value} {ρr:Operand→Value}
def Wl (P:Program) (L:List FuncId) (ρ:aY) (h:H) (w:World) (s:Sem Next) (v:Value) (h':H):Prop:=
 ∃ n v' w' ρ',s.run P w = .ok n w'∧Gives n v'∧Stp ρ h w ρ' h' w'∧HR ρ' h' w'∧VR ρ' v v'∧(Ren.Clean (· ∈ L) w→Ren.Clean (· ∈ L) w')
def DW (L:List FuncId) (x:Option Value):Bool:=match x with | some v=>jX L v | none=>false
def Pn (P:Program) (L:List FuncId) (t:T Value) (o:Oper):Bool:=gB P L o && !FK o.op&&(match o.op with
 | .load .. | .alloc _=>true
 | .box _ x=>DW L (aG t x)
 | .store _ _ y=>DW L (aG t y)
 | .buildSlice _ _ ps=>ps.toList.all fun p=>DW L (aG t p.2)
 | o=>qh o)
theorem yX {v:Value} (h:flat v=true):dA (· ∈ L) v:=by
 have key:∀ v:Value,flat v=true→dA (· ∈ L) v:=fun v h=>by
  have hh:=bF (ρ:=fun _=>.dead) h
  have:jX L v=true:=by
   clear hh
   exact L8 v h
  exact hh.clean this
 exact key v h
where
 L8:∀ v:Value,flat v=true→jX L v=true:=by
  intro v h
  exact (cl v).1 h
 cl:∀ v:Value,(flat v=true→jX L v=true)∧True:=fun v=>⟨fun h=>fcb v h,trivial⟩
 fcb:∀ v:Value,flat v=true→jX L v=true
  | .bool _,_ | .int _ _,_ | .string _,_ | .nilFunc,_ | .nilIface,_ | .pointer none,_ | .map none,_ | .chan none,_ | .slice none _ _,_=>rfl
  | .agg ⟨cs⟩,h=>by simp only [jX];exact XY cs (by simpa [flat] using h)
  | .tuple ⟨cs⟩,h=>by simp only [jX];exact XY cs (by simpa [flat] using h)
  | .float _ _,h | .complex _ _ _,h | .func _ _ _,h | .iface _ _,h=>by simp [flat] at h
  | .pointer (some _),h | .map (some _),h | .chan (some _),h | .slice (some _) _ _,h=>by simp [flat] at h
 XY:∀ l:List Value,ig l=true→fO L l=true
  | [],_=>rfl
  | v::l,h=>by
   simp only [ig] at h
   split at h
   ·rename_i hv
    simp only [fO,Bool.and_eq_true]
    exact ⟨fcb v hv,XY l h⟩
   ·cases h
theorem ru {v:Value} (h:flat v=true):∀ x∈v.cells.toList,dA (· ∈ L) x:=fun x hx=>by
 have h1:=(bF (ρ:=fun _=>.dead) h)
 refine eQ.clean h1.cells ?_ x hx
 cases v with
 | agg cs=>obtain ⟨cs⟩:=cs;exact yX.XY cs (by simpa [flat] using h)
 | _=>simp only [Value.cells,List.toList_toArray]<;>first | (simp only [fO,Bool.and_true];exact yX.fcb _ h) | (simp [fO];exact yX.fcb _ h)
theorem pI {v v':Value} (h:VR ρ v v') (hc:jX L v=true):∀ x∈v'.cells.toList,dA (· ∈ L) x:=fun x hx=>by
 refine eQ.clean h.cells ?_ x hx
 cases v with
 | agg cs=>obtain ⟨cs⟩:=cs;simpa [jX,Value.cells] using hc
 | _=>simp [Value.cells,fO,hc]
theorem mZ {w:World} {c:Array Value} {e:TypeId} (hc:∀ x∈c,dA (· ∈ L) x) (hw:Ren.Clean (· ∈ L) w):Ren.Clean (· ∈ L) (w.alloc (.cells c e)):=Pe hw (JQ hc) rfl
theorem zf {x:Option Value} (h:DW L x=true):∃ v,x=some v∧jX L v=true:=by
 cases x with
 | none=>cases h
 | some v=>exact ⟨v,rfl,h⟩
theorem FX {S:FuncId→Prop} (off:Nat):∀ (l:List (Value × Nat)) (cs:Array Value),(∀ x∈cs,dA S x)→(∀ p∈l,dA S p.1)→∀ x∈l.foldl (fun cs (c,j)=>cs.setIfInBounds (off+j) c) cs,dA S x
 | [],cs,h,_,x,hx=>h x hx
 | p::l,cs,h,hl,x,hx=>by
  refine FX off l _ (fun y hy=>?_) (fun q hq=>hl q (by simp [hq])) x hx
  obtain ⟨j,hj⟩:=Array.getElem?_of_mem hy
  rw [Array.getElem?_setIfInBounds] at hj
  split at hj
  ·split at hj
   ·cases hj;exact hl p (by simp)
   ·cases hj
  ·exact h y (Array.mem_of_getElem? hj)
theorem FZ {S:FuncId→Prop} {pl:Nat→Option (Nat × Nat)}:∀ {ps:List (Nat × Value)} {cs r:Array Value},Instr.fill pl cs ps=some r→(∀ x∈cs,dA S x)→(∀ p∈ps,∀ x∈p.2.cells,dA S x)→∀ x∈r,dA S x
 | [],cs,r,e,h,_=>by simp [Instr.fill] at e;subst e;exact h
 | (i,v)::ps,cs,r,e,h,hp=>by
  simp only [Instr.fill] at e
  split at e
  ·cases e
  ·rename_i off size hpl
   split at e
   ·cases e
   ·refine FZ e ?_ fun p hp'=>hp p (by simp [hp'])
    intro x hx
    have hx':x∈v.cells.zipIdx.toList.foldl (fun cs (c,j)=>cs.setIfInBounds (off+j) c) cs:=by rw [←Array.foldl_toList] at hx;exact hx
    refine FX _ _ _ h (fun p hp'=>?_) x hx'
    have h1:p∈v.cells.zipIdx:=Array.mem_toList_iff.1 hp'
    have h2:p.1∈v.cells:=by
     obtain ⟨p1,p2⟩:=p
     exact Array.mem_of_getElem? (Array.mem_zipIdx_iff_getElem?.1 h1)
    exact hp (i,v) (by simp) p.1 h2
theorem zN {α:Type} {z:List α} {x:α}:∀ {n:Nat},x∈dJ z n→x∈z
 | 0,h=>by simp [dJ] at h
 | n+1,h=>by
  rw [dJ,List.mem_append] at h
  exact h.elim id zN
set_option maxHeartbeats 1000000 in
theorem Ll {t:T Value} {o:Oper} {h h':H} {w:World} {v:Value} {n:Nat} {a:Act} (hc:Pn P L t o=true) (hp:qh o.op=false) (ht:TR ρ n t a.tmps) (hr:HR ρ h w) (e:tZ P (aG t) o.op h=some (v,h')) (hu:∀ b,h.next≤b→b<h'.next→ρ b = .aT):Wl P L ρ h w (execOp a.eval o) v h':=by
 have hE:=dh ht
 unfold Pn at hc
 simp only [Bool.and_eq_true] at hc
 obtain ⟨_,hc⟩:=hc
 unfold execOp
 cases hop:o.op<;>rw [hop] at e hc hp<;>simp only [tZ] at e<;>try (first | (cases e;done) | (simp only [fE] at e;cases e;done) | (exfalso;have hc2:=hc;dsimp only at hc2;rw [hp] at hc2;cases hc2;done))
 case alloc t=>
  have e:=gG e
  simp only [fE] at e
  split at e
  ·rename_i z hz
   obtain ⟨b,e1,rfl⟩:=lH e
   obtain ⟨hzr,hzf⟩:=jG hz w
   have hzv:eQ ρ z.cells.toList z.cells.toList:=(bF hzf).cells
   obtain ⟨ρ',s1,s2,_,s4⟩:=uF hr hzv e1 hu
   refine ⟨_,.pointer (some ⟨w.heap.size,0,none⟩),_,ρ',?_,.inl rfl,s1,s2,.ptr s4,mZ fun x hx=>ru hzf x (by simpa using hx)⟩
   simp [Instr.alloc,hzr,newVar,newRow]
  ·cases e
 case box t x=>
  have e:=gG e
  simp only [fE] at e
  split at e
  ·rename_i u hx
   split at e
   ·obtain ⟨b,e1,rfl⟩:=lH e
    have hv:=(gz hE hx).cells
    obtain ⟨u',hu',hcl⟩:=zf hc
    obtain rfl:u=u':=by rw [hx] at hu';exact Option.some.inj hu'
    obtain ⟨ρ',s1,s2,_,s4⟩:=uF hr hv e1 hu
    refine ⟨_,.pointer (some ⟨w.heap.size,0,none⟩),_,ρ',?_,.inl rfl,s1,s2,.ptr s4,mZ fun y hy=>pI (gz hE hx) hcl y (by simpa using hy)⟩
    simp [Instr.box,newVar,newRow]
   ·cases e
  ·cases e
 case load t x=>
  have e:=gG e
  simp only [fE] at e
  split at e
  ·rename_i b hx
   split at e
   ·rename_i u hl
    cases e
    obtain ⟨a',hx',ha⟩:=(gz hE hx).iQ
    obtain ⟨v',h1,h2⟩:=FC hr ha hl
    exact ⟨_,v',w,ρ,by simp [Instr.loadAt,Instr.sureAddr,hx',h1],.inl rfl,.refl ρ h w w rfl,hr,h2,id⟩
   ·cases e
  ·cases e
 case store t x y=>
  have e:=gG e
  simp only [fE] at e
  split at e
  ·rename_i b u hx hy
   obtain ⟨e1,rfl⟩:=Gg e
   obtain ⟨a',hx',ha⟩:=(gz hE hx).iQ
   have hvr:=gz hE hy
   obtain ⟨w',h1,h2,h3⟩:=Ib hr ha hvr e1
   obtain ⟨u',hu',hcl⟩:=zf hc
   obtain rfl:u=u':=by rw [hy] at hu';exact Option.some.inj hu'
   refine ⟨_,undef,w',ρ,by simp [Instr.storeAt,Instr.sureAddr,hx',h1],.inr ⟨rfl,rfl⟩,h2,h3,ja,fun hcw=>?_⟩
   have hb:∃ c e fz,w.heap[a'.block]? = some (.cells c e fz):=by
    unfold Bh at e1
    split at e1
    ·split at e1
     ·unfold stores at e1
      split at e1
      ·rename_i hg _ _
       obtain ⟨k,d,r,_,k2,_⟩:=row_of hr hg ha.block
       exact ⟨_,_,_,k2⟩
      ·rename_i hg _ _
       obtain ⟨x0,k,o',q1,q2,p,d,d2,r,_,rfl,_⟩:=hr.ob _ _ hg
       obtain rfl:=ha.block.at_ q1
       exact ⟨_,_,_,q2⟩
      ·cases e1
     ·cases e1
    ·cases e1
   have hst:∃ w1,(storeCells a' (a.eval y).cells.toList).run P w = .ok () w1∧w1=w':=by
    unfold storeVar at h1
    simp only [Sem.run_bind] at h1
    cases hz:(Go.sizeOf t).run P w with
    | halt hh w1=>rw [hz] at h1;simp [Result.andThen] at h1
    | ok sz w1=>
     have hw1:w1=w:=by
      unfold Go.sizeOf typeInfo at hz
      simp only [Sem.run_bind,run_program,Result.andThen] at hz
      cases hi:P.info? t with
      | none=>rw [hi] at hz;simp [stuck,Sem.run,Result.andThen] at hz
      | some i=>rw [hi] at hz;simp at hz;exact hz.2.symm
     subst hw1
     rw [hz] at h1
     simp only [Result.andThen] at h1
     by_cases hne:(a.eval y).cells.size=sz
     ·simp [hne] at h1
      exact ⟨w',h1,rfl⟩
     ·simp [hne,stuck,Sem.run,Result.andThen] at h1
   obtain ⟨w1,hst,rfl⟩:=hst
   exact uj _ 0 w w1 hb (fun x hx=>pI hvr hcl x hx) hst hcw
  ·cases e
 case buildSlice t len ps=>
  have e:=gG e
  simp only [fE] at e
  split at e
  ·rename_i vs el hvs htt
   split at e
   ·rename_i j z hj hz
    split at e
    ·rename_i h1 h2 h3
     split at e
     ·rename_i cs hf
      obtain ⟨b,e1,rfl⟩:=lH e
      have h1:=Nat.le_of_ble_eq_true h1
      have h2:=Nat.eq_of_beq_eq_true h2
      have h3:j.size≠0:=fun e0=>by rw [e0] at h3;cases h3
      obtain ⟨hzr,hzf⟩:=jG hz w
      have hzs:z.cells.size=j.size:=by rw [←h2];simp
      obtain ⟨r',f1,f2⟩:=AL (fun i=>some (i*j.size,j.size)) (ps:=ps.toList.map (·.1)) (hE.opts hvs) (jf (ρ:=ρ) hzf len) hf
      obtain ⟨ρ',s1,s2,_,s4⟩:=uF hr f2 e1 hu
      have hps:(ps.map fun (i,x)=>(i,a.eval x)).toList=(ps.toList.map (·.1)).zip (((ps.toList.map (·.2))).map a.eval):=by
       rw [map_snd,List.map_map];rfl
      have hf':Instr.fill (fun i=>some (i*j.size,j.size)) ⟨dJ z.cells.toList len⟩ (ps.map fun (i,x)=>(i,a.eval x)).toList=some r':=by rw [hps];exact f1
      have hrun:=run_buildSlice (ps:=ps.map fun (i,x)=>(i,a.eval x)) w htt hj hzr hzs h3 h1 hf'
      have hlen:len≤len*j.size:=Nat.le_mul_of_pos_right _ (by omega)
      refine ⟨_,.slice (some ⟨w.heap.size,0,none⟩) len len,_,ρ',by simp [hrun],.inl rfl,s1,s2,.slice s4 (.inl ⟨by unfold soft;omega,rfl⟩),mZ ?_⟩
      refine FZ hf' (fun x hx=>ru hzf x (zN (by simpa using hx))) fun p hp' x hx=>?_
      obtain ⟨q,hq,rfl⟩:∃ q∈ps,(q.1,a.eval q.2)=p:=by simpa using hp'
      have hcl:=List.all_eq_true.1 hc q (by simpa using hq)
      obtain ⟨u,hu',hcu⟩:=zf hcl
      exact pI (gz hE hu') hcu x (by simpa using hx)
     ·cases e
    ·cases e
   ·cases e
  ·cases e
end Ev
end Go
end
end
section
section
namespace Go
namespace Ev
open Go.Conc Go.Ren
variable {P:Program} {L N:List FuncId} {K:Frame→List Frame→World→Prop}
theorem oC (w:World) (t:Nat→Question→Nat):(wt w t).heap=w.heap:=rfl
theorem kH.op (hK:kH P L N K) {ρ:aY} {n:Nat} {t:T Value} {h h':H} {o:Oper} {v:Value} {ops:Array Oper} {i:Nat} {rest:List Nat} {b:Frame} {a:Act} {k:List Item} {cs:List Frame} {w:World}
  (e:(if qh o.op then (jQ P (aG t) o.op).map fun v=>(v,h) else tZ P (aG t) o.op h)=some (v,h')) (hc:Pn P L t o=true) (ho:ops[i]? = some o) (hw:Region.wanted o (yielded ops a.tmps)=true) (ht:TR ρ n t a.tmps) (hr:HR ρ h w) (hu:gK ρ h.next h'.next) (hcs:qM cs)
  (hk:∀ ρ' v' w',Stp ρ h w ρ' h' w'→HR ρ' h' w'→VR ρ' v v'→K (b.atR (a.put o.dst v') (.inRegion ops rest::k)) cs w'):K (b.atR a (.inRegion ops (i::rest)::k)) cs w:=by
 have hcc:=hc
 unfold Pn at hcc
 simp only [Bool.and_eq_true,Bool.not_eq_true'] at hcc
 obtain ⟨⟨hb,hcall⟩,_⟩:=hcc
 have hnd:∀ c,o.op ≠ .defer c:=fun c hh=>by
  split at e
  ·cases hp:jQ P (aG t) o.op with
   | none=>rw [hp] at e;cases e
   | some u=>exact gq hp c hh
  ·exact qF e c hh
 refine hK.own (jb ho hcall hb) fun tp=>?_
 have hr':HR ρ h (wt w tp):=hr.heap (oC w tp)
 have does:Wl P L ρ h (wt w tp) (execOp a.eval o) v h':=by
  split at e
  ·cases hp:jQ P (aG t) o.op with
   | none=>rw [hp] at e;cases e
   | some u=>
    rw [hp] at e
    cases e
    obtain ⟨v',q1,q2⟩:=pure_ok (o:=o) (dh ht) hp (wt w tp)
    exact ⟨_,v',_,ρ,q1,.inl rfl,.refl ρ h _ _ rfl,hr',q2,id⟩
  ·rename_i hp
   exact Ll hc (by simpa using hp) ht hr' e hu
 obtain ⟨M,v',w',ρ',q1,q2,q3,q4,q5,q6⟩:=does
 obtain ⟨es,hst⟩:=ku (b:=b) (k:=k) (cs:=cs) (rest:=rest) ho hw hnd q1 q2
 exact ⟨_,_,w',es,hst,trivial,hcs,fun hcl=>q6 (Ren.aX hcl (oC w tp)),.Jq (q3.heap (oC w tp)) hr hu,hk ρ' v' w' (q3.heap (oC w tp)) q4 q5⟩
theorem go_enter {b:Frame} {a:Act} {k:List Item} {cs:List Frame} {w:World} {ops:Array Oper} {i:Nat} {rest:List Nat} {o:Oper} {f:FuncId} {fn:Func} {c:Code} {xs:Array Operand} {ats:Array TypeId} (ho:ops[i]? = some o) (hw:Region.wanted o (yielded ops a.tmps)=true)
  (hop:o.op = .call { callee:=.value (.func f),args:=xs,argTypes:=ats }) (hf:P.funcs[f]? = some fn) (hb:fn.body=some c) (hname:(fn.name == "runtime.NumGoroutine")=false) :
  ∃ es,stepG P true (G (b.atR a (.inRegion ops (i::rest)::k)) cs) w = .go (G (Frame.enter P f (xs.map a.eval) .normal) (b.atR a (.inRegion ops (i::rest)::k)::cs)) w es:=by
 have hd:∀ c,o.op ≠ .defer c:=fun c=>by rw [hop];simp
 have h1:=stepGR_op (P:=P) (b:=b) (a:=a) (k:=k) (cs:=cs) (w:=w) (rest:=rest) ho hw
 have hrun:(execOp a.eval o).run P w = .ok (.enter f (xs.map a.eval)) w:=by
  unfold execOp
  rw [hop]
  show (do let d ← resolve a.eval _ o.type;invoke d.target d.args:Sem Next).run P w=_
  unfold resolve
  have hc:=jg hf hname hb (xs.map a.eval) w
  simp only [Act.eval,Deferred.ofValue,Sem.run_bind,Sem.run_pure,Result.andThen,invoke]
  have e1:(#[]:Array Value)++xs.map a.eval++#[]=xs.map a.eval:=by simp
  show (callFunc f ((#[]:Array Value)++xs.map a.eval++#[])).run P w=_
  rw [e1];exact hc
 unfold Conc.G
 rw [h1,Oper.semAt_eq _ _ _ hd]
 simp only [stepG.apply,Sem.runT_eq,hrun,if_true,GStep.after]
 exact ⟨_,rfl⟩
theorem kH.YP (hK:kH P L N K) {ρ:aY} {n:Nat} {t:T Value} {h h':H} {o:Oper} {v:Value} {ops:Array Oper} {i:Nat} {rest:List Nat} {b:Frame} {a:Act} {k:List Item} {cs:List Frame} {w:World} {f:FuncId} {xs:Array Operand} {ats:Array TypeId} {args:List Value}
  (hop:o.op = .call { callee:=.value (.func f),args:=xs,argTypes:=ats }) (hargs:opts (aG t) xs.toList=some args) (hF:aV P f args h v h') (hfL:f∈L) (hfN:f∉N) (hcl:fO L args=true) (hbo:gB P L o=true)
  (ho:ops[i]? = some o) (hw:Region.wanted o (yielded ops a.tmps)=true) (ht:TR ρ n t a.tmps) (hr:HR ρ h w) (hu:gK ρ h.next h'.next) (hcs:qM cs)
  (hk:∀ ρ' v' w',Stp ρ h w ρ' h' w'→HR ρ' h' w'→VR ρ' v v'→K (b.atR (a.put o.dst v') (.inRegion ops rest::k)) cs w'):K (b.atR a (.inRegion ops (i::rest)::k)) cs w:=by
 obtain ⟨hn,fn,c,hf,hb,hname,hdo⟩:=hF
 have hE:=dh ht
 have hva:=hE.opts hargs
 refine hK.own (L9 (o:=o) rfl rfl ho hop hfN hbo) fun tp=>?_
 obtain ⟨es,hst⟩:=go_enter (b:=b) (k:=k) (cs:=cs) (rest:=rest) (w:=wt w tp) ho hw hop hf hb hname
 refine ⟨_,_,wt w tp,es,hst,trivial,hcs.cons _,fun hc=>Ren.aX hc (oC w tp),.of rfl,?_⟩
 have e1:xs.map a.eval=⟨xs.toList.map a.eval⟩:=by apply Array.ext';simp
 rw [e1]
 have hF:aV P f args h v h':=⟨hn,fn,c,hf,hb,hname,hdo⟩
 refine hK.call (Post:=fun x w'=>∃ ρ',Stp ρ h w ρ' h' w'∧HR ρ' h' w'∧VR ρ' v x) hfL (BU fun x hx=>eQ.clean hva hcl x (by simpa using hx)) hcs.ne (fun x v1 t1 ⟨ρ',s1,s2,s3⟩=>⟨ρ',⟨s1.le,s1.next,s1.born,s1.size,s1.log⟩,s2.heap rfl,s3⟩) (fun t1=>?_) (fun x w' ⟨ρ',s1,_,_⟩=>show dG w w' from .Jq s1 hr hu) fun x w' ⟨ρ',s1,s2,s3⟩=>?_
 ·refine (hF.calls (ρ:=ρ) (w:=wt (wt w tp) t1) hva (hr.heap rfl) hu).mono ?_
  rintro e w' ⟨v',ρ',rfl,s1,s2,s3⟩
  exact ⟨v',rfl,ρ',s1.heap rfl,s2,s3⟩
 ·have hfin:=Frame.finish_atR b a ops i rest k x
  rw [ho] at hfin
  simp only [Option.bind_some] at hfin
  rw [hfin]
  exact hk ρ' x w' s1 s2 s3
end Ev
end Go
end
end
section
section
namespace Go
namespace Ev
open Go.Conc Go.Ren
variable {P:Program} {L N:List FuncId} {K:Frame→List Frame→World→Prop}
def wX (N:List FuncId) (invN:FuncId→List Value→H→Option (Value × H)) (fJ:Iv):Iv
 | .func f,args,h=>match N.contains f with
  | true=>invN f args h
  | false=>fJ (.func f) args h
 | _,_,_=>none
def ckC (P:Program) (L N:List FuncId) (t:T Value) (o:Oper):Bool:=
 match o.op with
 | .call c=>match c.callee with
  | .value (.func f)=>match N.contains f with
   | true=>c.args.toList.all (jR P (L++N))
   | false=>gB P L o&&L.contains f&&(match opts (aG t) c.args.toList with | some args=>fO L args | none=>false)
  | _=>false
 | _=>Pn P L t o
def Be (P:Program) (L N:List FuncId) (K:Frame→List Frame→World→Prop) (f:FuncId) (args:List Value) (h:H) (v:Value) (h':H):Prop:=
 h.next≤h'.next∧∃ fn c,P.funcs[f]? = some fn∧fn.body=some c∧(fn.name == "runtime.NumGoroutine")=false∧jF P L c=true ∧
  ∀ ρ args' w c cs,qM cs→dB c.mode→eQ ρ args args'→HR ρ h w→gK ρ h.next h'.next→(∀ ρ' v' w',Stp ρ h w ρ' h' w'→HR ρ' h' w'→VR ρ' v v'→K (c.finish v') cs w')→K (Frame.enter P f ⟨args'⟩ .normal) (c::cs) w
structure zn (P:Program) (L N:List FuncId) (K:Frame→List Frame→World→Prop) (invN:FuncId→List Value→H→Option (Value × H)) (fJ:Iv):Prop where
 ups:kH P L N K
 lone:∀ f args h v h',fJ (.func f) args h=some (v,h')→aV P f args h v h'
 many:∀ f args h v h',f∈N→invN f args h=some (v,h')→Be P L N K f args h v h'
variable {invN:FuncId→List Value→H→Option (Value × H)} {fJ:Iv}
theorem zn.next (hI:zn P L N K invN fJ):lQ (wX N invN fJ):=fun g args h v h' e=>by
 cases g with
 | func f=>
  simp only [wX] at e
  split at e
  ·rename_i hf;exact (hI.many f args h v h' (by simpa using hf) e).1
  ·exact (hI.lone f args h v h' e).1
 | _=>simp [wX] at e
theorem sZ {x:Operand} (h:jR P (L++N) x=true):bG P (@Ren.Nm (aK P L N) (· ∈ L)) x:=by
 have h1:=uq h
 cases x with
 | func f=>
  have h2:f∈L++N:=h1
  rcases List.mem_append.1 h2 with h3 | h3
  ·exact .inl h3
  ·exact .inr h3
 | _=>exact h1
theorem kH.enter (hK:kH P L N K) {f:FuncId} {fn:Func} {c:Code} {xs:Array Operand} {ats:Array TypeId} {ops:Array Oper} {i:Nat} {rest:List Nat} {o:Oper} {b:Frame} {a:Act} {k:List Item} {cs:List Frame} {w:World} (ho:ops[i]? = some o) (hw:Region.wanted o (yielded ops a.tmps)=true)
  (hop:o.op = .call { callee:=.value (.func f),args:=xs,argTypes:=ats }) (hf:P.funcs[f]? = some fn) (hb:fn.body=some c) (hname:(fn.name == "runtime.NumGoroutine")=false) (hcl:jF P L c=true) (hxs:∀ x∈xs,jR P (L++N) x=true)
  (hbk:b.kind = .normal) (hbr:b.roundOf=none) (h:K (Frame.enter P f (xs.map a.eval) .normal) (b.atR a (.inRegion ops (i::rest)::k)::cs) w):K (b.atR a (.inRegion ops (i::rest)::k)) cs w:=by
 have hgood:@ai (aK P L N) P (· ∈ L) (Frame.enter P f #[] .normal):=by
  refine @ai.mk (aK P L N) P (· ∈ L) (Frame.enter P f #[] .normal) (fun it hit=>?_) (fun d hd=>(by simp [Frame.enter] at hd)) trivial (.inl rfl)
  have:it = .code c:=by
   simp only [Frame.enter,hf] at hit
   simpa [hb] using hit
  subst this
  exact @BZ P L N c hcl
 have hxs':∀ x∈xs,bG P (@Ren.Nm (aK P L N) (· ∈ L)) x:=fun x hx=>sZ (hxs x hx)
 refine hK _ _ _ (@iG.enter (aK P L N) P (· ∈ L) _ (b.atR a (.inRegion ops (i::rest)::k)) cs f xs w hgood hxs' (fun fr' m cs' w1 hx=>?_) ?_)
 ·exact @VD (aK P L N) P (· ∈ L) (b.atR a (.inRegion ops (i::rest)::k)) ops i rest k o f fn c xs ats rfl hbr (by show b.kind ≠ .early;rw [hbk];intro h;cases h) rfl ho hw hop hf hname hb hxs' fr' m cs' w1 hx
 ·have e:xs.map (b.atR a (.inRegion ops (i::rest)::k)).eval=xs.map a.eval:=by rw [Frame.eval_atR]
  rw [e]
  exact @iG.done (aK P L N) _ _ _ _ _ ⟨_,_,rfl,h,.of rfl⟩
theorem zn.one (hI:zn P L N K invN fJ) {ρ:aY} {n:Nat} {t:T Value} {h h':H} {o:Oper} {v:Value} {ops:Array Oper} {i:Nat} {rest:List Nat} {b:Frame} {a:Act} {k:List Item} {cs:List Frame} {w:World}
  (e:lT P (wX N invN fJ) t h o.op=some (v,h')) (hc:ckC P L N t o=true) (qP:∀ f∈L,f∉N) (ho:ops[i]? = some o) (hw:Region.wanted o (yielded ops a.tmps)=true) (ht:TR ρ n t a.tmps) (hr:HR ρ h w) (hu:gK ρ h.next h'.next) (hcs:qM cs)
  (hbk:b.kind = .normal) (hbr:b.roundOf=none) (hk:∀ ρ' v' w',Stp ρ h w ρ' h' w'→HR ρ' h' w'→VR ρ' v v'→K (b.atR (a.put o.dst v') (.inRegion ops rest::k)) cs w'):K (b.atR a (.inRegion ops (i::rest)::k)) cs w:=by
 by_cases hcall:∃ c,o.op = .call c
 ·obtain ⟨⟨cal,xs,ats⟩,hop⟩:=hcall
  unfold ckC at hc
  rw [hop] at hc e
  simp only at hc
  split at hc
  ·rename_i f
   have e':Gp (wX N invN fJ) t h (.func f) xs.toList=some (v,h'):=by simpa [lT,qh] using e
   unfold Gp at e'
   simp only [aG] at e'
   split at e'
   ·rename_i args hargs
    have hcl:callee (.func (.func f) #[] #[]) args=some (.func f,args):=by simp [callee]
    rw [hcl] at e'
    simp only [wX] at e'
    split at hc
    ·rename_i hN
     rw [hN] at e'
     simp only at e'
     obtain ⟨n1,fn,c,q1,q2,q3,q4,q5⟩:=hI.many f args h v h' (by simpa using hN) e'
     have hva:=(dh ht).opts hargs
     refine hI.ups.enter ho hw hop q1 q2 q3 q4 (fun x hx=>List.all_eq_true.1 hc x (by simpa using hx)) hbk hbr ?_
     have e1:xs.map a.eval=⟨xs.toList.map a.eval⟩:=by apply Array.ext';simp
     rw [e1]
     refine q5 ρ _ w _ cs hcs trivial hva hr hu fun ρ' v' w' s1 s2 s3=>?_
     have hfin:=Frame.finish_atR b a ops i rest k v'
     rw [ho] at hfin
     simp only [Option.bind_some] at hfin
     rw [hfin]
     exact hk ρ' v' w' s1 s2 s3
    ·rename_i hN
     rw [hN] at e'
     simp only [Bool.and_eq_true] at hc
     rw [hargs] at hc
     have hfL:f∈L:=by simpa using hc.1.2
     exact hI.ups.YP hop hargs (hI.lone f args h v h' e') hfL (qP f hfL) hc.2 hc.1.1 ho hw ht hr hu hcs hk
   ·cases e'
  ·cases hc
 ·have hnc:∀ c,o.op ≠ .call c:=fun c hh=>hcall ⟨c,hh⟩
  have hc':Pn P L t o=true:=by
   unfold ckC at hc
   split at hc
   ·rename_i c hop;exact absurd hop (hnc c)
   ·exact hc
  refine hI.ups.op (t:=t) ?_ hc' ho hw ht hr hu hcs hk
  unfold lT at e
  split at e
  ·rename_i hp
   rw [hp]
   split at e
   ·rename_i u hu';cases e;simp [hu']
   ·cases e
  ·rename_i hp
   rw [hp]
   split at e
   ·rename_i c hop;exact absurd hop (hnc c)
   ·simpa using e
end Ev
end Go
end
end
section
section
namespace Go
namespace Ev
open Go.Conc Go.Ren
variable {P:Program} {L N:List FuncId} {K:Frame→List Frame→World→Prop} {invN:FuncId→List Value→H→Option (Value × H)} {fJ:Iv}
def skC (P:Program) (L N:List FuncId) (o:Oper):Bool:=gB P L o&&(match o.op with
 | .call c=>match c.callee with
  | .value (.func f)=>!N.contains f
  | _=>false
 | _=>true)
def Wu (P:Program) (L N:List FuncId):Ck:=⟨ckC P L N,skC P L N⟩
theorem Vm {b:Frame} {a:Act} {cs:List Frame} {k:List Item} {ops:Array Oper} {i:Nat} {rest:List Nat} {o:Oper} (ho:ops[i]? = some o) (h:skC P L N o=true):@Fit (aK P L N) P (G (b.atR a (.inRegion ops (i::rest)::k)) cs):=by
 unfold skC at h
 simp only [Bool.and_eq_true] at h
 obtain ⟨hb,h⟩:=h
 split at h
 ·rename_i c hop
  split at h
  ·rename_i f hc
   obtain ⟨cal,xs,ats⟩:=c
   simp only at hc
   subst hc
   exact L9 (o:=o) rfl rfl ho hop (by simpa using h) hb
  ·cases h
 ·rename_i hnc
  have hcall:FK o.op=false:=by
   cases hop:o.op<;>first | rfl | exact absurd hop (hnc _)
  exact jb ho hcall hb
theorem kH.skip (hK:kH P L N K) {ops:Array Oper} {i:Nat} {rest:List Nat} {o:Oper} {b:Frame} {a:Act} {k:List Item} {cs:List Frame} {w:World} (ho:ops[i]? = some o) (hs:skC P L N o=true) (hw:Region.wanted o (yielded ops a.tmps)=false) (hcs:qM cs)
  (h:∀ t,K (b.atR (a.put o.dst undef) (.inRegion ops rest::k)) cs (wt w t)):K (b.atR a (.inRegion ops (i::rest)::k)) cs w:=by
 have hfin:=Frame.finish_atR b a ops i rest k undef
 rw [ho] at hfin
 simp only [Option.bind_some] at hfin
 have h':((ops[i]?).map (Region.wanted · (yielded ops a.tmps))).getD false=false:=by rw [ho];simpa using hw
 refine hK.own (Vm ho hs) fun t=>⟨b.atR (a.put o.dst undef) (.inRegion ops rest::k),cs,wt w t,#[],?_,trivial,hcs,fun hc=>Ren.aX hc rfl,.of rfl,h t⟩
 rw [←hfin]
 unfold Conc.G
 simp only [Frame.atR] at h' ⊢
 simp [stepG,stepG.exec,h']
theorem kH.pure_ (hK:kH P L N K) {ρ:Ev.aY} {n:Nat} {t:T Value} {o:Oper} {v:Value} {ops:Array Oper} {i:Nat} {rest:List Nat} {b:Frame} {a:Act} {k:List Item} {cs:List Frame} {w:World} (e:jQ P (aG t) o.op=some v) (hc:ckC P L N t o=true) (hpb:qh o.op=true)
  (ho:ops[i]? = some o) (hw:Region.wanted o (yielded ops a.tmps)=true) (ht:TR ρ n t a.tmps) (hcs:qM cs) (hk:∀ v' tp,VR ρ v v'→K (b.atR (a.put o.dst v') (.inRegion ops rest::k)) cs (wt w tp)):K (b.atR a (.inRegion ops (i::rest)::k)) cs w:=by
 have hc':Pn P L t o=true:=by
  unfold ckC at hc
  split at hc
  ·rename_i c hop
   split at hc
   ·rename_i f hcal
    rw [hop] at hpb
    simp [qh,hcal] at hpb
   ·cases hc
  ·exact hc
 unfold Pn at hc'
 simp only [Bool.and_eq_true,Bool.not_eq_true'] at hc'
 refine hK.own (jb ho hc'.1.2 hc'.1.1) fun tp=>?_
 obtain ⟨v',q1,q2⟩:=pure_ok (o:=o) (dh ht) e (wt w tp)
 obtain ⟨es,hst⟩:=ku (b:=b) (k:=k) (cs:=cs) (rest:=rest) ho hw (gq e) q1 (.inl rfl)
 exact ⟨_,_,_,es,hst,trivial,hcs,fun hcl=>Ren.aX hcl rfl,.of rfl,hk v' tp q2⟩
theorem kH.item (hK:kH P L N K) {b:Frame} {a:Act} {x:Item} {k k':List Item} {cs:List Frame} {w:World} (hx:Ou x=true) (hcs:qM cs) (h:∀ w:World,∃ es,stepG P true (G (b.atR a (x::k)) cs) w = .go (G (b.atR a k') cs) w es) (hk:∀ t,K (b.atR a k') cs (wt w t)) :
  K (b.atR a (x::k)) cs w:=hK.text hcs (kS hx) h hk
theorem nJ {b:Frame} {a:Act} {ops:Array Oper} {k:List Item} {cs:List Frame} (w:World):∃ es,stepG P true (G (b.atR a (.inRegion ops []::k)) cs) w = .go (G (b.atR a k) cs) w es:=⟨#[],by unfold Conc.G;simp [stepG,stepG.exec,Frame.atR]⟩
variable (hI:zn P L N K invN fJ) (qP:∀ f∈L,f∉N)
include hI qP
theorem zn.ops {n:Nat} {ops:Array Oper} {b:Frame} {k:List Item} {cs:List Frame} (hbk:b.kind = .normal) (hbr:b.roundOf=none) (hcs:qM cs):∀ {l:List Oper} {i:Nat} {t t':T Value} {h h':H},l=ops.toList.drop i→jm P (wX N invN fJ) (Wu P L N) n ops.toList l t h=some (t',h') →
  ∀ {ρ:Ev.aY} {a:Act} {w:World},TR ρ n t a.tmps→HR ρ h w→gK ρ h.next h'.next→(∀ ρ' a' w',a'.defers=a.defers→Stp ρ h w ρ' h' w'→HR ρ' h' w'→TR ρ' n t' a'.tmps→K (b.atR a' k) cs w')→K (b.atR a (.inRegion ops (List.range' i l.length)::k)) cs w
 | [],i,t,t',h,h',hl,e,ρ,a,w,ht,hr,hu,hk=>by
  cases e
  exact hI.ups.item rfl hcs nJ fun tp=>hk ρ a (wt w tp) rfl (.refl ρ h _ _ rfl) (hr.heap rfl) ht
 | o::l,i,t,t',h,h',hl,e,ρ,a,w,ht,hr,hu,hk=>by
  have ho:ops[i]? = some o:=by
   have:(ops.toList.drop i)[0]? = some o:=by rw [←hl];rfl
   simpa using this
  have hl':l=ops.toList.drop (i+1):=by
   rw [←List.drop_drop,← hl];rfl
  have hrange:List.range' i (o::l).length=i::List.range' (i+1) l.length:=by simp [List.range'_succ]
  rw [hrange]
  simp only [jm] at e
  split at e
  ·rename_i hw
   have hwant:=dP ht hw
   split at e
   case h_2=>cases e
   rename_i hck
   split at e
   ·rename_i v h1 e1
    split at e
    ·rename_i t1 e2
     have n1:=qo hI.next e1
     have n2:=dX hI.next e
     refine hI.one e1 hck qP ho hwant ht hr (hu.sub (Nat.le_refl _) n2) hcs hbk hbr fun ρ1 v' w1 s2 s3 s4=>?_
     have ht1:TR ρ1 n t1 (a.put o.dst v').tmps:=(ht.mono s2.le).put e2 s4
     exact zn.ops hbk hbr hcs hl' e ht1 s3 ((hu.sub n1 (Nat.le_refl _)).step s2 (Nat.le_refl _)) fun ρ2 a2 w2 d1 d2 d3 d4=>hk ρ2 a2 w2 (by rw [d1,put_defers]) (s2.trans d2) d3 d4
    ·cases e
   ·cases e
  ·rename_i hw
   have hwant:=dP ht hw
   split at e
   case h_2=>cases e
   rename_i hsk
   split at e
   ·rename_i t1 e2
    have ht1:TR ρ n t1 (a.put o.dst undef).tmps:=ht.put e2 ja
    refine hI.ups.skip ho hsk hwant hcs fun tp=>?_
    exact zn.ops hbk hbr hcs hl' e ht1 (hr.heap rfl) hu fun ρ2 a2 w2 d1 d2 d3 d4=>hk ρ2 a2 w2 (by rw [d1,put_defers]) (d2.heap rfl) d3 d4
   ·cases e
  ·cases e
variable {n:Nat} {ops:Array Oper} {h:H} {TT:Nat→T Value} {NX:Nat→Nat} {RS:Nat→List Rec} {ρ0 ρ:Ev.aY} {w0 w:World} {X:Nat→Prop} {E:List Rec} {a:Act}
omit hI qP in
theorem Mid.IA {w':World} (hM:Mid P n ops h TT NX RS ρ0 w0 X E ρ a w) (e:w'.heap=w.heap):Mid P n ops h TT NX RS ρ0 w0 X E ρ a w':=by
 obtain ⟨m1,m2,m3,m4,m5,m6,m7,m8⟩:=hM
 obtain ⟨f1,f2,f3,l,f4,f5,f6,f7⟩:=m7
 exact ⟨m1,m2,m3,m4,m5,m6.heap e,⟨f1,f2,by rw [e];exact f3,l,f4,by rw [e];exact f5,f6,f7⟩,m8⟩
theorem zn.mid (hF:Fine P (wX N invN fJ) (Wu P L N) n ops h TT NX RS) (hM:Mid P n ops h TT NX RS ρ0 w0 X E ρ a w) {i:Nat} {o:Oper} (ho:ops[i]? = some o) (hX:¬ X i) (hd:∀ e∈o.after,Region.binds .any e=true→X e.on) {b:Frame} {k:List Item} {cs:List Frame}
  (hbk:b.kind = .normal) (hbr:b.roundOf=none) (hcs:qM cs) (rest:List Nat) (hk:∀ ρ' E' v' w',Mid P n ops h TT NX RS ρ0 w0 (fun j=>X j∨j=i) E' ρ' (a.put o.dst v') w'→K (b.atR (a.put o.dst v') (.inRegion ops rest::k)) cs w') :
  K (b.atR a (.inRegion ops (i::rest)::k)) cs w:=by
 have hR:=hM.reads hF ho hX hd
 obtain ⟨v,hset,hs⟩:=hF.tr.step i o ho
 rcases hs with ⟨hw,hsk,rfl,_,he⟩ | ⟨hw,hck,hpb,hp,_,he⟩ | ⟨hw,hck,h1,e1,e2,he⟩
 ·exact hI.ups.skip ho hsk (dP hR hw) hcs fun tp=>hk ρ E undef (wt w tp) ((hM.quiet hF ho hX hd hset he ja).IA rfl)
 ·have hwant:=dP hR hw
  exact hI.ups.pure_ hp hck hpb ho hwant hR hcs fun v' tp hv=>hk ρ E v' (wt w tp) ((hM.quiet hF ho hX hd hset he hv).IA rfl)
 ·have hwant:=dP hR hw
  obtain ⟨hHR,hun,E',hnew⟩:=hM.loud hF ho hX hd hset he
  exact hI.one e1 hck qP ho hwant hR hHR hun hcs hbk hbr fun ρ' v' w' s1 s2 s3=>hk ρ' E' v' w' (hnew s1 s2 s3)
end Ev
end Go
end
end
section
section
namespace Go
namespace Ev
open Go.Conc Go.Ren
variable {P:Program} {L N:List FuncId} {K:Frame→List Frame→World→Prop} {invN:FuncId→List Value→H→Option (Value × H)} {fJ:Iv}
variable {n:Nat} {ops:Array Oper} {h:H} {TT:Nat→T Value} {NX:Nat→Nat} {RS:Nat→List Rec}
theorem QZ (hlow:∀ i o,ops[i]? = some o→∀ e∈o.after,Region.binds .any e=true→e.on<i) {listed:Array Bool} (hs:listed.size=ops.size) (hnil:Region.ready .any ops listed=[]):∀ m j,j<m→j<ops.size→listed.getD j true=true:=by
 intro m
 induction m with
 | zero=>intro j h1;omega
 | succ m ihm=>
  intro j h1 h2
  by_cases hjm:j<m
  ·exact ihm j hjm h2
  ·obtain rfl:j=m:=by omega
   cases e:listed.getD j true
   ·exfalso
    have:j∈Region.ready .any ops listed:=mem_ready.2 ⟨e,_,Array.getElem?_eq_getElem h2,fun ed hed hb=>by
     have hl:=hlow j _ (Array.getElem?_eq_getElem h2) ed hed hb
     rw [←getD_both (by omega)]
     exact ihm _ hl (by omega)⟩
    rw [hnil] at this;cases this
   ·rfl
theorem zn.all (hI:zn P L N K invN fJ) (qP:∀ f∈L,f∉N) (hF:Fine P (wX N invN fJ) (Wu P L N) n ops h TT NX RS) {ρ0:Ev.aY} {w0:World} {b:Frame} {k:List Item} {cs:List Frame} {ds:List Deferred} (hbk:b.kind = .normal) (hbr:b.roundOf=none) (hcs:qM cs)
  (hk:∀ X E ρ a w,a.defers=ds→(∀ j,j<ops.size→X j)→Mid P n ops h TT NX RS ρ0 w0 X E ρ a w→K (b.atR a (.inRegion ops []::k)) cs w):∀ (fuel t:Nat) (listed:Array Bool) {E:List Rec} {ρ:Ev.aY} {a:Act} {w:World},listed.size=ops.size→(qZ ops listed).length≤fuel→a.defers=ds →
  Mid P n ops h TT NX RS ρ0 w0 (fun j=>listed.getD j false=true) E ρ a w→K (b.atR a (.inRegion ops (Region.linearise.go .any ops fuel t listed [])::k)) cs w:=by
 intro fuel
 induction fuel with
 | zero=>
  intro t listed E ρ a w hs hl hds hM
  have hnil:qZ ops listed=[]:=List.eq_nil_of_length_eq_zero (by omega)
  have:Region.linearise.go .any ops 0 t listed []=[]:=by simp [Region.linearise.go]
  rw [this]
  refine hk _ E ρ a w hds (fun j hj=>?_) hM
  cases e:listed.getD j true
  ·have:j∈qZ ops listed:=Ai.2 ⟨hj,e⟩
   rw [hnil] at this;cases this
  ·rw [←getD_both (by omega)];exact e
 | succ fuel ih=>
  intro t listed E ρ a w hs hl hds hM
  simp only [Region.linearise.go]
  change K (b.atR a (.inRegion ops (match (Region.ready .any ops listed)[t % (Region.ready .any ops listed).length]? with
   | some i=>Region.linearise.go .any ops fuel (t / (Region.ready .any ops listed).length) (listed.setIfInBounds i true) [i]
   | none=>[].reverse)::k)) cs w
  cases hi:(Region.ready .any ops listed)[t % (Region.ready .any ops listed).length]? with
  | none=>
   have hnil:Region.ready .any ops listed=[]:=by
    cases hr:Region.ready .any ops listed with
    | nil=>rfl
    | cons x xs=>
     rw [hr] at hi
     have hlt:t % (x::xs).length<(x::xs).length:=Nat.mod_lt _ (by simp)
     simp at hi
     simp at hlt
     omega
   simp only [List.reverse_nil]
   refine hk _ E ρ a w hds (fun j hj=>?_) hM
   rw [←getD_both (by omega)];exact QZ (fun i o ho=>y9 hF.draw ho) hs hnil (j+1) j (by omega) hj
  | some i=>
   simp only []
   rw [linearise_go_acc,List.reverse_singleton,List.singleton_append]
   obtain ⟨q1,o,q2,q3⟩:=mem_ready.1 (List.mem_of_getElem? hi)
   have hio:=(Array.getElem?_eq_some_iff.1 q2).1
   refine hI.mid qP hF hM q2 (by rw [←getD_both (by omega),q1];simp) q3 hbk hbr hcs _ fun ρ1 E1 v1 w1 s2=>?_
   have hX:(fun j=>listed.getD j false=true∨j=i)=fun j=>(listed.setIfInBounds i true).getD j false=true:=by
    funext j
    by_cases e:j=i
    ·subst e;simp [Array.getD,hs,hio]
    ·rw [getD_set_ne false (Ne.symm e)];simp [e]
   rw [hX] at s2
   have hlt:=Iw hs (Ai.2 ⟨hio,q1⟩)
   exact ih (t / (Region.ready .any ops listed).length) (listed.setIfInBounds i true) (by simpa using hs) (by omega) (by rw [put_defers];exact hds) s2
theorem Mid.end_ {inv:Iv} {ck:Ck} (hF:Fine P inv ck n ops h TT NX RS) {ρ ρ':Ev.aY} {w w':World} {X:Nat→Prop} {E:List Rec} {a':Act} (s3:∀ j,j<ops.size→X j) (s4:Mid P n ops h TT NX RS ρ w X E ρ' a' w') (hnx:h.next≤NX ops.size) :
  Stp ρ h w ρ' ⟨layAll h.t (RS ops.size),NX ops.size,gu (RS ops.size)++h.log⟩ w'∧HR ρ' ⟨layAll h.t (RS ops.size),NX ops.size,gu (RS ops.size)++h.log⟩ w'∧TR ρ' n (TT ops.size) a'.tmps:=by
 have hmem:∀ r,r∈E↔r∈RS ops.size:=fun r=>by
  rw [s4.mem]
  exact ⟨fun h=>h.1,fun h=>⟨h,s3 _ (hF.Je h).1⟩⟩
 have hget:∀ c,(⟨layAll h.t (RS ops.size),NX ops.size,gu (RS ops.size)++h.log⟩:H).get c=(HE h (NX ops.size) E).get c:=fun c=>by
  rw [hF.FQ fun r hr=>(hmem r).1 hr]
  show (layAll h.t (RS ops.size)).get c=_
  rw [qC _ _ _ fun r hr=>hF.TF hr]
  rw [BQ (pr:=Np ops) (p:=touches c) (l:=RS ops.size) (m:=E) ((hF.tr.all (Nat.le_refl _)).2.imp fun {r s} hrs=>by
   cases e:Np ops r.i s.i
   ·rfl
   ·have:=hF.lt e;omega) s4.pw (fun r _=>(hmem r).symm) (fun r s hr hs h1 h2=>hF.both hr hs h1 h2)]
  rfl
 have hlg:∀ c,c∈gu (RS ops.size)↔c∈gu E:=fun c=>by
  rw [qy,qy]
  exact ⟨fun ⟨r,h1,h2⟩=>⟨r,(hmem r).2 h1,h2⟩,fun ⟨r,h1,h2⟩=>⟨r,(hmem r).1 h1,h2⟩⟩
 refine ⟨?_,⟨s4.heap.dH,fun c oc hc=>s4.heap.ob c oc (by rw [←hget];exact hc),fun c d x k l hc hd=>s4.heap.inj c d x k l (by rw [←hget];exact hc) (by rw [←hget];exact hd)⟩,s4.size,fun d v hv=>?_⟩
 ·obtain ⟨l,e1,f1,o1,t1,g1,k1⟩:=s4.far.log
  have hl:l=gu E:=List.append_cancel_right (show l++h.log=gu E++h.log from e1.symm)
  subst hl
  refine ⟨s4.far.le,hnx,fun b hb hx=>s4.far.born b hb fun hn=>?_,s4.far.size,gu (RS ops.size),rfl,fun x o hx hn=>f1 x o hx fun c m hc=>hn c m ((hlg c).2 hc),fun c x m hc=>?_,fun c hc=>t1 c ((hlg c).1 hc),fun c hc=>?_,fun c hc=>k1 c fun h=>hc ((hlg c).2 h)⟩
  ·simp only at hx;omega
  ·rcases o1 c x m hc with h | ⟨h1,h | ⟨d,m',h2,h3⟩⟩
   ·exact .inl h
   ·exact .inr ⟨h1,.inl h⟩
   ·exact .inr ⟨h1,.inr ⟨d,m',(hlg d).2 h2,h3⟩⟩
  ·rw [hget];exact g1 c fun h=>hc ((hlg c).2 h)
 ·obtain ⟨m,m1,m2,m3⟩:=s4.tmps d
  refine m3 v ?_
  rw [←hv]
  exact hF.I4 (Nat.le_refl _) m1 fun j o hj hd=>by
   have hjs:=(Array.getElem?_eq_some_iff.1 hj).1
   rw [←m2 j o hj hd]
   exact ⟨fun _=>s3 j hjs,fun _=>hjs⟩
theorem F8 {inv:Iv} {ck:Ck} (hN:lQ inv) {t t':T Value} {h':H} (e:yZ P inv ck n ops.toList t h=some (t',h')) :
  (match P.follows .mixedOrders with | true=>true | false=>!AQ ops.toList)=true∧∃ TT NX RS,Fine P inv ck n ops h TT NX RS∧TT 0=t∧TT ops.size=t'∧h'=⟨layAll h.t (RS ops.size),NX ops.size,gu (RS ops.size)++h.log⟩∧h.next≤NX ops.size:=by
 unfold yZ at e
 split at e
 ·rename_i hdraw hdep
  split at e
  ·rename_i t1 nx rs hreg
   split at e
   ·rename_i hap hlog
    cases e
    obtain ⟨TT,NX,RS,a1,a2,a3,a4,a5,a6,a7⟩:=Bo hreg
    have hsz:0+ops.toList.length=ops.size:=by simp
    rw [hsz] at a4 a5 a6
    subst a4 a5 a6
    have hF:Fine P inv ck n ops h TT NX RS:={
     hI:=hN
     tr:=⟨fun j o ho=>by simpa using a7 j o (by simpa using ho),a3⟩
     draw:=hdraw
     apart:=fun r hr s hs=>xy hap r hr s hs
     logs:=fun r hr=>List.all_eq_true.1 hlog r hr
     nx0:=a2 }
    have hnx:=hF.tr.jL hN (j:=0) (k:=ops.size) (by omega) (by omega)
    rw [a2] at hnx
    exact ⟨hdep,TT,NX,RS,hF,a1,rfl,rfl,hnx⟩
   ·cases e
  ·cases e
 ·cases e
theorem Fine.mid0 {inv:Iv} {ck:Ck} (hF:Fine P inv ck n ops h TT NX RS) {ρ:Ev.aY} {a:Act} {w:World} (ht:TR ρ n (TT 0) a.tmps) (hr:HR ρ h w) (hu:gK ρ h.next (NX ops.size)):Mid P n ops h TT NX RS ρ w (fun j=>(Array.replicate ops.size false).getD j false=true) [] ρ a w:=by
 have hX0:∀ j,(Array.replicate ops.size false).getD j false=false:=fun j=>by
  simp only [Array.getD];split<;>simp
 exact {
  closed:=fun j hj=>by rw [hX0] at hj;cases hj
  mem:=fun r=>by simp [hX0]
  pw:=.nil
  size:=ht.size
  tmps:=fun d=>⟨0,by omega,fun j o _ _=>by simp [hX0],fun v hv=>ht.get d v hv⟩
  heap:=⟨hr.dH,hr.ob,hr.inj⟩
  far:=⟨.refl ρ,fun _ h _=>h,Nat.le_refl _,[],rfl,fun x o hx _=>hx,fun _ _ _ h=>.inl h,fun _ h=>by simp at h,fun _ _=>rfl,fun _ _ _=>rfl⟩
  QL:=fun r hr _=>by
   obtain ⟨q1,⟨_,q2,_⟩,q3⟩:=hF.Je hr
   have h1:=hF.tr.jL hF.hI (j:=0) (k:=r.i) (by omega) (by omega)
   have h2:=hF.tr.jL hF.hI (j:=r.i+1) (k:=ops.size) (by omega) (by omega)
   rw [hF.nx0] at h1
   exact hu.sub (by rw [q2];exact h1) (by rw [q3];exact h2) }
theorem zn.drawn (hI:zn P L N K invN fJ) (qP:∀ f∈L,f∉N) {t t':T Value} {h':H} (e:yZ P (wX N invN fJ) (Wu P L N) n ops.toList t h=some (t',h')) {ρ:Ev.aY} {b:Frame} {a:Act} {k:List Item} {cs:List Frame} {w:World} (hbk:b.kind = .normal) (hbr:b.roundOf=none) (hcs:qM cs) (x:Nat)
  (ht:TR ρ n t a.tmps) (hr:HR ρ h w) (hu:gK ρ h.next h'.next) (hk:∀ ρ' a' w',a'.defers=a.defers→Stp ρ h w ρ' h' w'→HR ρ' h' w'→TR ρ' n t' a'.tmps→K (b.atR a' k) cs w') :
  K (b.atR a (.inRegion ops (Region.schedule (P.follows .mixedOrders) ops x)::k)) cs w:=by
 obtain ⟨hdep,TT,NX,RS,hF,a1,a2,rfl,hnx⟩:=F8 hI.next e
 rw [zH hdep]
 unfold Region.linearise
 refine hI.all qP hF (ds:=a.defers) (ρ0:=ρ) (w0:=w) hbk hbr hcs (fun X E ρ' a' w' d1 d2 d3=>?_) ops.size x (Array.replicate ops.size false) (by simp) (by
  refine Nat.le_trans (List.length_filter_le _ _) (by simp)) rfl (hF.mid0 (by rw [a1];exact ht) hr hu)
 obtain ⟨q1,q2,q3⟩:=d3.end_ hF d2 hnx
 refine hI.ups.item rfl hcs nJ fun tp=>hk ρ' a' (wt w' tp) d1 ?_ (q2.heap rfl) (by rw [←a2];exact q3)
 exact ⟨q1.le,q1.next,q1.born,q1.size,q1.log⟩
end Ev
end Go
end
end
section
section
namespace Go
namespace Ev
open Go.Conc Go.Ren
variable {P:Program} {L N:List FuncId} {K:Frame→List Frame→World→Prop} {invN:FuncId→List Value→H→Option (Value × H)} {fJ:Iv}
section
variable (P:Program) (L N:List FuncId) (invN:FuncId→List Value→H→Option (Value × H)) (fJ:Iv)
def PV (n:Nat) (ops:List Oper) (draw:Bool) (s:St):Option (Ex × St):=
 match draw with
 | false=>match jm P (wX N invN fJ) (Wu P L N) n ops ops s.t s.h with
  | some (t,h)=>some (.normal,⟨t,h,s.marks⟩)
  | none=>none
 | true=>match yZ P (wX N invN fJ) (Wu P L N) n ops s.t s.h with
  | some (t,h)=>some (.normal,⟨t,h,s.marks⟩)
  | none=>none
def gy (n:Nat):Code→St→Option (Ex × St)
 | .skip,s | .label _,s=>some (.normal,s)
 | .region _ ops draw,s=>PV P L N invN fJ n ops.toList draw s
 | .seq a b,s=>H8 (gy n a s) (gy n b)
 | .cond c a b,s=>match aG s.t c with
  | some (.bool true)=>gy n a s
  | some (.bool false)=>gy n b s
  | _=>none
 | .block id b,s=>zh id (gy n b s)
 | .exit id,s=>some (.exit id,s)
 | .ret,s=>some (.ret,s)
 | _,_=>none
def qB (fn:Func) (x:Ex × St):Option (Value × H):=
 match x.1 with
 | .exit _=>none
 | _=>match oD P x.2.t x.2.h fn.results.toList with
  | some v=>some (v,x.2.h)
  | none=>none
def Au (f:FuncId) (args:List Value) (h:H):Option (Value × H):=
 match P.funcs[f]? with
 | some fn=>match fn.body,qI 0 args .nil,fn.name == "runtime.NumGoroutine" with
  | some c,some t,false=>match jF P L c with
   | true=>match gy P L N invN fJ (args.length+(fn.ntmps - args.length)) c ⟨t,h,[]⟩ with
    | some x=>qB P fn x
    | none=>none
   | false=>none
  | _,_,_=>none
 | none=>none
end
def GetsK (K:Frame→List Frame→World→Prop) (b:Frame) (a:Act) (k:List Item) (cs:List Frame) (w:World):Ex→Prop
 | .normal=>K (b.atR a k) cs w
 | .exit id=>∃ k',exitTo id k=some k'∧K (b.atR a k') cs w
 | .ret=>∀ k0,K (b.atR a (.code .ret::k0)) cs w
def RunsK (K:Frame→List Frame→World→Prop) (n:Nat) (c:Code) (s:St) (x:Ex × St):Prop:=s.h.next≤x.2.h.next ∧
 ∀ ρ b a k cs w,b.kind = .normal→b.roundOf=none→qM cs→TR ρ n s.t a.tmps→HR ρ s.h w→gK ρ s.h.next x.2.h.next→(∀ ρ' a' w',a'.defers=a.defers→Stp ρ s.h w ρ' x.2.h w'→HR ρ' x.2.h w'→TR ρ' n x.2.t a'.tmps→GetsK K b a' k cs w' x.1)→K (b.atR a (.code c::k)) cs w
theorem Stp.tape {ρ ρ':Ev.aY} {h h':H} {w w':World} (s:Stp ρ h w ρ' h' w') (t:Nat→Question→Nat):Stp ρ h w ρ' h' (wt w' t):=⟨s.le,s.next,s.born,s.size,s.log⟩
theorem nH {b:Frame} {a:Act} {k k':List Item} {cs:List Frame} (h:∀ w:World,(stepG P true (G (b.atR a k) cs) w) = .go (G (b.atR a k') cs) w #[]) (w:World):∃ es,stepG P true (G (b.atR a k) cs) w = .go (G (b.atR a k') cs) w es:=⟨#[],h w⟩
theorem jE (hI:zn P L N K invN fJ) (qP:∀ f∈L,f∉N) {n:Nat}:∀ (c:Code) (s:St) (x:Ex × St),gy P L N invN fJ n c s=some x→RunsK K n c s x
 | .skip,s,x,e=>by
  cases e
  exact ⟨Nat.le_refl _,fun ρ b a k cs w hbk hbr hcs ht hr hu hk=>hI.ups.item rfl hcs (nH fun w=>by unfold Conc.G;simp [stepG,stepG.exec,Frame.atR]) fun tp=>hk ρ a (wt w tp) rfl (.refl ρ _ _ _ rfl) (hr.heap rfl) ht⟩
 | .label l,s,x,e=>by
  cases e
  exact ⟨Nat.le_refl _,fun ρ b a k cs w hbk hbr hcs ht hr hu hk=>hI.ups.item rfl hcs (nH fun w=>by unfold Conc.G;simp [stepG,stepG.exec,Frame.atR]) fun tp=>hk ρ a (wt w tp) rfl (.refl ρ _ _ _ rfl) (hr.heap rfl) ht⟩
 | .region id ops draw,s,x,e=>by
  simp only [gy,PV] at e
  split at e
  ·split at e
   ·rename_i t h e1
    cases e
    refine ⟨dX hI.next e1,fun ρ b a k cs w hbk hbr hcs ht hr hu hk=>?_⟩
    refine hI.ups.item (k':=.inRegion ops (List.range ops.size)::k) rfl hcs (nH fun w=>by unfold Conc.G;simp [stepG,stepG.exec,Frame.atR]) fun tp=>?_
    have hr':HR ρ s.h (wt w tp):=hr.heap rfl
    have key:=zn.ops (b:=b) (k:=k) (cs:=cs) hI qP hbk hbr hcs (i:=0) (by simp) e1 ht hr' hu fun ρ' a' w' d1 d2 d3 d4=>hk ρ' a' w' d1 (d2.heap rfl) d3 d4
    rw [List.range_eq_range']
    simpa using key
   ·cases e
  ·split at e
   ·rename_i t h e1
    cases e
    obtain ⟨_,TT,NX,RS,_,_,_,hh,hnx⟩:=F8 hI.next e1
    refine ⟨by show s.h.next≤h.next;rw [hh];exact hnx,fun ρ b a k cs w hbk hbr hcs ht hr hu hk=>?_⟩
    refine hI.ups.own (kS rfl) fun tp=>?_
    refine ⟨b.atR a (.inRegion ops (Region.schedule (P.follows .mixedOrders) ops (tp w.drawn (.order b.fn id)))::k),cs,{ wt w tp with drawn:=w.drawn+1 },#[],?_,trivial,hcs,fun hc=>Ren.aX hc rfl,.of rfl,?_⟩
    ·unfold Conc.G
     simp [stepG,stepG.exec,Frame.atR,choose,Sem.run,Question.forced,Question.cut,wt]
    ·exact hI.drawn qP e1 hbk hbr hcs _ ht (hr.heap rfl) hu fun ρ' a' w' d1 d2 d3 d4=>hk ρ' a' w' d1 (d2.heap rfl) d3 d4
   ·cases e
 | .seq c d,s,x,e=>by
  simp only [gy,H8] at e
  split at e
  ·rename_i s1 e1
   obtain ⟨n1,h1⟩:=jE hI qP c s _ e1
   obtain ⟨n2,h2⟩:=jE hI qP d s1 x e
   simp only at n1 h1
   refine ⟨Nat.le_trans n1 n2,fun ρ b a k cs w hbk hbr hcs ht hr hu hk=>?_⟩
   refine hI.ups.item (k':=.code c :: .code d::k) rfl hcs (nH fun w=>by unfold Conc.G;simp [stepG,stepG.exec,Frame.atR]) fun tp=>?_
   refine h1 ρ b a (.code d::k) cs (wt w tp) hbk hbr hcs ht (hr.heap rfl) (hu.sub (Nat.le_refl _) n2) fun ρ1 a1 w1 d1 d2 d3 d4=>?_
   exact h2 ρ1 b a1 k cs w1 hbk hbr hcs d4 d3 ((hu.sub n1 (Nat.le_refl _)).step d2 (Nat.le_refl _)) fun ρ2 a2 w2 p1 p2 p3 p4=>hk ρ2 a2 w2 (p1.trans d1) ((d2.trans p2).heap (w:=w) rfl) p3 p4
  ·rename_i y hy
   obtain ⟨n1,h1⟩:=jE hI qP c s x e
   refine ⟨n1,fun ρ b a k cs w hbk hbr hcs ht hr hu hk=>?_⟩
   refine hI.ups.item (k':=.code c :: .code d::k) rfl hcs (nH fun w=>by unfold Conc.G;simp [stepG,stepG.exec,Frame.atR]) fun tp=>?_
   refine h1 ρ b a (.code d::k) cs (wt w tp) hbk hbr hcs ht (hr.heap rfl) hu fun ρ1 a1 w1 d1 d2 d3 d4=>?_
   have hg:=hk ρ1 a1 w1 d1 (d2.heap rfl) d3 d4
   obtain ⟨ex,sx⟩:=x
   cases ex with
   | normal=>exact absurd e (hy sx)
   | exit id=>obtain ⟨k',q1,q2⟩:=hg;exact ⟨k',by simpa [exitTo] using q1,q2⟩
   | ret=>exact hg
 | .cond c d1 d2,s,x,e=>by
  simp only [gy] at e
  split at e
  ·rename_i hc
   obtain ⟨n1,h1⟩:=jE hI qP d1 s x e
   refine ⟨n1,fun ρ b a k cs w hbk hbr hcs ht hr hu hk=>?_⟩
   have hb:a.eval c = .bool true:=(dh ht _ _ hc).dQ
   refine hI.ups.item (k':=.code d1::k) rfl hcs (nH fun w=>by
    have:=congrFun (Frame.eval_atR b a (.code (.cond c d1 d2)::k)) c
    simp only [Frame.atR] at this
    unfold Conc.G
    simp [stepG,stepG.exec,Frame.atR,this,hb]) fun tp=>?_
   exact h1 ρ b a k cs (wt w tp) hbk hbr hcs ht (hr.heap rfl) hu fun ρ1 a1 w1 q1 q2 q3 q4=>hk ρ1 a1 w1 q1 (q2.heap rfl) q3 q4
  ·rename_i hc
   obtain ⟨n1,h1⟩:=jE hI qP d2 s x e
   refine ⟨n1,fun ρ b a k cs w hbk hbr hcs ht hr hu hk=>?_⟩
   have hb:a.eval c = .bool false:=(dh ht _ _ hc).dQ
   refine hI.ups.item (k':=.code d2::k) rfl hcs (nH fun w=>by
    have:=congrFun (Frame.eval_atR b a (.code (.cond c d1 d2)::k)) c
    simp only [Frame.atR] at this
    unfold Conc.G
    simp [stepG,stepG.exec,Frame.atR,this,hb]) fun tp=>?_
   exact h1 ρ b a k cs (wt w tp) hbk hbr hcs ht (hr.heap rfl) hu fun ρ1 a1 w1 q1 q2 q3 q4=>hk ρ1 a1 w1 q1 (q2.heap rfl) q3 q4
  ·cases e
 | .block id c,s,x,e=>by
  simp only [gy] at e
  cases hy:gy P L N invN fJ n c s with
  | none=>rw [hy] at e;simp [zh] at e
  | some y=>
   rw [hy] at e
   obtain ⟨n1,h1⟩:=jE hI qP c s y hy
   obtain ⟨ey,sy⟩:=y
   have hx:x.2=sy∧(x.1=ey∨(ey = .exit id∧x.1 = .normal))∧(ey = .exit id→x.1 = .normal):=by
    unfold zh at e
    split at e
    ·rename_i i s' e0
     obtain ⟨rfl,rfl⟩:=Prod.mk.inj (Option.some.inj e0)
     split at e
     ·rename_i hb;cases e;obtain rfl:=Nat.eq_of_beq_eq_true hb;exact ⟨rfl,.inr ⟨rfl,rfl⟩,fun _=>rfl⟩
     ·rename_i hb;cases e;exact ⟨rfl,.inl rfl,fun e1=>by cases e1;simp at hb⟩
    ·rename_i hyy
     cases e
     exact ⟨rfl,.inl rfl,fun e1=>by subst e1;exact absurd rfl (hyy id sy)⟩
   obtain ⟨ex,sx⟩:=x
   simp only at hx n1 h1
   obtain ⟨rfl,hx2,hx3⟩:=hx
   refine ⟨n1,fun ρ b a k cs w hbk hbr hcs ht hr hu hk=>?_⟩
   refine hI.ups.item (k':=.code c :: .inBlock id::k) rfl hcs (nH fun w=>by unfold Conc.G;simp [stepG,stepG.exec,Frame.atR]) fun tp=>?_
   refine h1 ρ b a (.inBlock id::k) cs (wt w tp) hbk hbr hcs ht (hr.heap rfl) hu fun ρ1 a1 w1 d1 d2 d3 d4=>?_
   cases ey with
   | normal=>
    rcases hx2 with rfl | ⟨h0,_⟩
    ·exact hI.ups.item rfl hcs (nH fun w=>by unfold Conc.G;simp [stepG,stepG.exec,Frame.atR]) fun tp1=>hk ρ1 a1 (wt w1 tp1) d1 ((d2.tape tp1).heap (w:=w) rfl) (d3.heap rfl) d4
    ·cases h0
   | ret=>
    rcases hx2 with rfl | ⟨h0,_⟩
    ·exact hk ρ1 a1 w1 d1 (d2.heap rfl) d3 d4
    ·cases h0
   | exit i=>
    by_cases hi:i=id
    ·subst hi
     have:ex = .normal:=hx3 rfl
     subst this
     exact ⟨k,by simp [exitTo],hk ρ1 a1 w1 d1 (d2.heap rfl) d3 d4⟩
    ·rcases hx2 with rfl | ⟨h0,_⟩
     ·obtain ⟨k',q1,q2⟩:=hk ρ1 a1 w1 d1 (d2.heap rfl) d3 d4
      have hne:(id==i)=false:=by simp;exact fun h=>hi h.symm
      exact ⟨k',by simpa [exitTo,hne] using q1,q2⟩
     ·cases h0;exact absurd rfl hi
 | .exit id,s,x,e=>by
  cases e
  refine ⟨Nat.le_refl _,fun ρ b a k cs w hbk hbr hcs ht hr hu hk=>?_⟩
  obtain ⟨k',q1,_⟩:=hk ρ a w rfl (.refl ρ _ _ _ rfl) hr ht
  refine hI.ups.item (k':=k') rfl hcs (nH fun w=>by unfold Conc.G;simp [stepG,stepG.exec,Frame.atR,q1]) fun tp=>?_
  obtain ⟨k2,p1,p2⟩:=hk ρ a (wt w tp) rfl (.refl ρ _ _ _ rfl) (hr.heap rfl) ht
  rw [q1] at p1;cases p1;exact p2
 | .ret,s,x,e=>by
  cases e
  exact ⟨Nat.le_refl _,fun ρ b a k cs w hbk hbr hcs ht hr hu hk=>hk ρ a w rfl (.refl ρ _ _ _ rfl) hr ht k⟩
 | .scope c,s,x,e=>by simp [gy] at e
 | .goto l,s,x,e=>by simp [gy] at e
 | .refuse y,s,x,e=>by simp [gy] at e
 | .loop c,s,x,e=>by simp [gy] at e
 | .rangeFunc f ps as bd,s,x,e=>by simp [gy] at e
theorem LP {fr c:Frame} {cs:List Frame} {w:World} {v:Value} (h:fr.leaving P w (.returned v)):∃ es,stepG P true (G fr (c::cs)) w = .go (G (c.finish v) cs) w es:=by
 obtain ⟨hm,hd,hk,fn,hf,hr⟩:=h
 unfold Conc.G
 exact ⟨seen P fr.fn (Sem.events P (results fn fr.tmps) w #[]),by simp [stepG,unwind,doReturn,hm,hd,hk,hf,hr,GStep.after]⟩
theorem CY (c:Frame) (v:Value):(c.finish v).mode=c.mode:=by
 unfold Frame.finish
 split<;>rfl
theorem OO (hI:zn P L N K invN fJ) (qP:∀ f∈L,f∉N) {f:FuncId} {args:List Value} {h h':H} {v:Value} (e:Au P L N invN fJ f args h=some (v,h')):Be P L N K f args h v h':=by
 unfold Au at e
 split at e
 ·rename_i fn hf
  split at e
  ·rename_i c t hb ht hname
   split at e
   case h_2=>cases e
   rename_i hcl
   split at e
   ·rename_i x hx
    obtain ⟨n1,h1⟩:=jE hI qP c _ x hx
    have hx':(∃ id,x.1 = .exit id)∨(oD P x.2.t x.2.h fn.results.toList=some v∧h'=x.2.h):=by
     unfold qB at e
     split at e
     ·rename_i id hid;exact .inl ⟨id,hid⟩
     ·split at e
      ·rename_i u hu;cases e;exact .inr ⟨hu,rfl⟩
      ·cases e
    have hne:¬ ∃ id,x.1 = .exit id:=fun ⟨id,hid⟩=>by
     unfold qB at e
     rw [hid] at e
     cases e
    obtain ⟨hres,rfl⟩:=hx'.resolve_left hne
    simp only at n1
    refine ⟨n1,fn,c,hf,hb,hname,hcl,fun ρ args' w cf cs hcs hcm ha hr hu hk=>?_⟩
    let b:Frame:={ (default:Frame) with fn:=f,kind:=.normal }
    have hl:=ha.length
    have henter:Frame.enter P f ⟨args'⟩ .normal=b.atR { tmps:=(⟨args'⟩:Array Value)++Array.replicate (fn.ntmps - args.length) undef,defers:=[] } [.code c]:=by
     simp [Frame.enter,Frame.atR,hf,hb,b,hl]
     rfl
    rw [henter]
    have leave:∀ ρ' a' w' k0,a'.defers=[]→Stp ρ h w ρ' x.2.h w'→HR ρ' x.2.h w'→TR ρ' (args.length+(fn.ntmps - args.length)) x.2.t a'.tmps→K { b.atR a' k0 with mode:=.returning } (cf::cs) w':=fun ρ' a' w' k0 d1 d2 d3 d4=>by
     have hlv:∀ tp,∃ v',({ b.atR a' k0 with mode:=.returning }:Frame).leaving P (wt w' tp) (.returned v')∧VR ρ' v v':=fun tp=>by
      obtain ⟨v',r1,r2⟩:=sH (fn:=fn) d4 (d3.heap (w':=wt w' tp) rfl) hres
      exact ⟨v',⟨rfl,d1,rfl,fn,hf,r1⟩,r2⟩
     obtain ⟨v0,hl0,_⟩:=hlv w'.tape
     refine hI.ups.own (@Fit.leaving P (aK P L N) _ _ _ _ hl0) fun tp=>?_
     obtain ⟨v',q1,q2⟩:=hlv tp
     obtain ⟨es,hst⟩:=LP (c:=cf) (cs:=cs) q1
     exact ⟨_,_,wt w' tp,es,hst,by rw [CY];exact hcm,hcs,fun hc=>Ren.aX hc rfl,.of rfl,hk ρ' v' (wt w' tp) (d2.tape tp) (d3.heap rfl) q2⟩
    refine h1 ρ b _ [] (cf::cs) w rfl rfl (hcs.cons cf) (ve ht ha) hr hu fun ρ' a' w' d1 d2 d3 d4=>?_
    obtain ⟨ex,sx⟩:=x
    cases ex with
    | exit id=>exact absurd ⟨id,rfl⟩ hne
    | normal=>
     show K (b.atR a' []) (cf::cs) w'
     refine hI.ups.own (@DU P (aK P L N) _ _ rfl rfl) fun tp=>?_
     exact ⟨{ b.atR a' [] with mode:=.returning },cf::cs,wt w' tp,#[],by unfold Conc.G;simp [stepG,stepG.exec,Frame.atR,b];rfl,trivial,hcs.cons cf,fun hc=>Ren.aX hc rfl,.of rfl,leave ρ' a' (wt w' tp) [] d1 (d2.tape tp) (d3.heap rfl) d4⟩
    | ret=>
     intro k0
     refine hI.ups.own (kS rfl) fun tp=>?_
     exact ⟨{ b.atR a' (.code .ret::k0) with mode:=.returning },cf::cs,wt w' tp,#[],by unfold Conc.G;simp [stepG,stepG.exec,Frame.atR,b];rfl,trivial,hcs.cons cf,fun hc=>Ren.aX hc rfl,.of rfl,leave ρ' a' (wt w' tp) _ d1 (d2.tape tp) (d3.heap rfl) d4⟩
   ·cases e
  ·cases e
 ·cases e
end Ev
end Go
end
end
section
section
namespace Go
namespace Ev
open Go.Conc Go.Ren
variable {P:Program} {L N:List FuncId} {K:Frame→List Frame→World→Prop}
def Iq (r:Option (Value × H)) (e:Made):Bool:=match r with
 | some (u,h)=>uz u e.v&&Nat.ble h.next e.nx'&&(h.log.all fun b=>Nat.ble e.nx b)&&(e.kn.all fun p=>Nat.blt p.1 top&&Nat.blt p.1 e.nx)&&(e.born.all fun p=>(match h.get p.1 with | some o=>JM o p.2 | none=>false)&&(Nat.blt p.1 top&&Nat.ble e.nx p.1&&Nat.blt p.1 h.next))
 | none=>false
def Made.out (e:Made) (h:H):H:=⟨onto e.born h.t,e.nx',List.range' e.nx (e.nx' - e.nx)++h.log⟩
theorem Be.made {e:Made} {r:Option (Value × H)} (hb:Iq r e=true) (hq:∀ v h1,r=some (v,h1)→Be P L N K e.f e.args (start e.kn e.nx) v h1) {h:H} (hn:h.next≤e.nx) (hk:∀ p∈e.kn,∃ o,h.get p.1=some o∧o.Le p.2) :
  Be P L N K e.f e.args h e.v (e.out h):=by
 unfold Iq at hb
 split at hb
 case h_2=>cases hb
 rename_i u h1
 simp only [Bool.and_eq_true] at hb
 obtain ⟨⟨⟨⟨b1,b2⟩,b3⟩,b4⟩,b5⟩:=hb
 obtain ⟨n1,fn,c,q1,q2,q3,q4,q5⟩:=hq u h1 rfl
 obtain rfl:=iU b1
 have n1:e.nx≤h1.next:=n1
 have n2:h1.next≤e.nx':=Nat.le_of_ble_eq_true b2
 have ht0:∀ p∈e.kn,p.1<top∧p.1<e.nx:=fun p hp=>by have:=List.all_eq_true.1 b4 p hp;simpa only [Bool.and_eq_true,Nat.blt_eq] using this
 have ht:∀ p∈e.kn,p.1<top:=fun p hp=>(ht0 p hp).1
 have hm:∀ p∈e.born,(∃ o,h1.get p.1=some o∧o.Le p.2)∧p.1<top∧e.nx≤p.1∧p.1<h1.next:=fun p hp=>by
  have:=List.all_eq_true.1 b5 p hp
  simp only [Bool.and_eq_true,Nat.blt_eq] at this
  refine ⟨?_,this.2.1.1,Nat.le_of_ble_eq_true this.2.1.2,this.2.2⟩
  have h2:=this.1
  split at h2
  ·rename_i o ho;exact ⟨o,ho,uV h2⟩
  ·cases h2
 have hmt:∀ p∈e.born,p.1<top:=fun p hp=>(hm p hp).2.1
 have hrange:∀ b,b∈List.range' e.nx (e.nx' - e.nx)↔e.nx≤b∧b<e.nx':=fun b=>by rw [List.mem_range'_1];omega
 refine ⟨Nat.le_trans hn (Nat.le_trans n1 n2),fn,c,q1,q2,q3,q4,fun ρ args' w c cs hcs hmo hva hr hu hK=>?_⟩
 have hu:gK ρ h.next e.nx':=hu
 have hr0:HR ρ (start e.kn e.nx) w:=⟨hr.dH,fun b o hb=>by
  obtain ⟨o1,h1,h2⟩:=hk (b,o) (dY ht hb)
  obtain ⟨x,k,o',p1,p2,p3⟩:=hr.ob b o1 h1
  exact ⟨x,k,o',p1,p2,h2.or p3⟩,fun b c x k l hb hc' hx hy=>by
  obtain ⟨ob,hob⟩:=Option.isSome_iff_exists.1 hb
  obtain ⟨oc,hoc⟩:=Option.isSome_iff_exists.1 hc'
  obtain ⟨o1,h1,_⟩:=hk (b,ob) (dY ht hob)
  obtain ⟨o2,h2,_⟩:=hk (c,oc) (dY ht hoc)
  exact hr.inj b c x k l (by rw [h1];rfl) (by rw [h2];rfl) hx hy⟩
 refine q5 ρ args' w c cs hcs hmo hva hr0 (hu.sub hn n2) fun ρ' v' w' s1 s2 s3=>?_
 obtain ⟨l,e1,f1,o1,t1,k1,k2⟩:=s1.log
 have e1:h1.log=l:=by rw [e1];exact List.append_nil l
 have hlr:∀ b,b∈l→e.nx≤b∧b<h1.next:=fun b hb=>by
  have h0:e.nx≤b:=Nat.le_of_ble_eq_true (List.all_eq_true.1 b3 b (by rw [e1];exact hb))
  rcases t1 b hb with h | h
  ·obtain ⟨o,ho⟩:=Option.isSome_iff_exists.1 h
   have:=(ht0 _ (dY ht ho)).2
   exact absurd h0 (Nat.not_le.2 this)
  ·exact h
 have hl:∀ b,b∈l→ρ b = .aT:=fun b hb=>hu b (by have:=hlr b hb;omega) (by have:=hlr b hb;omega)
 have hun:∀ b,e.nx≤b→b<e.nx'→ρ b = .aT:=fun b h1 h2=>hu b (by omega) h2
 have hfr:∀ x o,w.heap[x]? = some o→w'.heap[x]? = some o:=fun x o hx=>f1 x o hx fun b k hb hat=>by
  rw [hl b hb] at hat;cases hat
 have hkn:∀ b o,h.get b=some o→ρ' b=ρ b∧¬ (e.nx≤b∧b<e.nx'):=fun b o hb=>by
  obtain ⟨x,k,o',p1,_⟩:=hr.ob b o hb
  exact ⟨k2 b (fun hh=>by rw [hl b hh] at p1;cases p1) (by rw [p1];intro hh;cases hh),fun hh=>by rw [hun b hh.1 hh.2] at p1;cases p1⟩
 have hnew:∀ b x k,ρ b = .aT→ρ' b = .at_ x k→w.heap.size≤x:=fun b x k hb hx=>by
  rcases o1 b x k hx with h | ⟨_,h2⟩
  ·rw [hb] at h;cases h
  ·rcases h2 with h2 | ⟨c,j,hc,hj⟩
   ·exact h2
   ·rw [hl c hc] at hj;cases hj
 refine hK ρ' v' w' ⟨s1.le,Nat.le_trans hn (Nat.le_trans n1 n2),fun b hb hx=>?_,s1.size,_,rfl,fun x o hx _=>hfr x o hx,fun b x k hb=>?_,fun b hb=>?_,fun b hb=>?_,fun b hb hub=>?_⟩ ⟨s2.dH,fun b o hb=>?_,fun b d x k j hb hd hx hy=>?_⟩ s3
 ·have hx':b<h.next∨e.nx'≤b:=hx
  exact s1.born b hb (by show b<e.nx∨h1.next≤b;omega)
 ·rcases o1 b x k hb with h | ⟨h,h2⟩
  ·exact .inl h
  ·exact .inr ⟨h,.inl (hnew b x k h hb)⟩
 ·have:=(hrange b).1 hb
  exact .inr ⟨by omega,this.2⟩
 ·exact EX hmt fun p hp hh=>hb ((hrange b).2 (by have:=hm p hp;omega))
 ·by_cases hbl:b∈l
  ·exact absurd (hl b hbl) hub
  ·exact k2 b hbl hub
 ·rcases qm hmt hb with h4 | h4
  ·obtain ⟨o1,h5,h6⟩:=(hm _ h4).1
   obtain ⟨x,k,o',p1,p2,p3⟩:=s2.ob b o1 h5
   exact ⟨x,k,o',p1,p2,h6.or p3⟩
  ·obtain ⟨x,k,o',p1,p2,p3⟩:=hr.ob b o h4
   exact ⟨x,k,o',by rw [(hkn b o h4).1];exact p1,hfr x o' p2,p3.mono s1.le⟩
 ·obtain ⟨ob,hob⟩:=Option.isSome_iff_exists.1 hb
  obtain ⟨od,hod⟩:=Option.isSome_iff_exists.1 hd
  have low:∀ b o x k,h.get b=some o→ρ' b = .at_ x k→ρ b = .at_ x k∧x<w.heap.size:=fun b o x k hb hx=>by
   rw [(hkn b o hb).1] at hx
   exact ⟨hx,hr.lt hb hx⟩
  rcases qm hmt hob with h4 | h4<;>rcases qm hmt hod with h5 | h5
  ·obtain ⟨o4,h6,_⟩:=(hm _ h4).1
   obtain ⟨o5,h7,_⟩:=(hm _ h5).1
   exact s2.inj b d x k j (by rw [h6];rfl) (by rw [h7];rfl) hx hy
  ·have g1:=hm _ h4
   have:=hnew b x k (hun b g1.2.2.1 (by have:=g1.2.2.2;simp only at this;omega)) hx
   have:=(low d od x j h5 hy).2
   omega
  ·have g1:=hm _ h5
   have:=hnew d x j (hun d g1.2.2.1 (by have:=g1.2.2.2;simp only at this;omega)) hy
   have:=(low b ob x k h4 hx).2
   omega
  ·exact hr.inj b d x k j (by rw [show h.get b=some ob from h4];rfl) (by rw [show h.get d=some od from h5];rfl) (low b ob x k h4 hx).1 (low d od x j h5 hy).1
def XX (e:Made) (f:FuncId) (args:List Value) (h:H):Bool:=Nat.beq e.f f&&Nat.ble h.next e.nx&&lK e.args args&&e.kn.all fun p=>match h.get p.1 with
 | some o=>JM o p.2
 | none=>false
def NH:List Made→FuncId→List Value→H→Option (Value × H)
 | [],_,_,_=>none
 | e::es,f,args,h=>match XX e f args h with
  | true=>some (e.v,e.out h)
  | false=>NH es f args h
def Bd (P:Program) (L N:List FuncId) (K:Frame→List Frame→World→Prop) (e:Made):Prop:=∀ h:H,h.next≤e.nx→(∀ p∈e.kn,∃ o,h.get p.1=some o∧o.Le p.2)→Be P L N K e.f e.args h e.v (e.out h)
theorem Bd.of {e:Made} {invN:FuncId→List Value→H→Option (Value × H)} {fJ:Iv} (hI:zn P L N K invN fJ) (hN:N.contains e.f=true) (hb:Iq (invN e.f e.args (start e.kn e.nx)) e=true):Bd P L N K e:=fun _ hn hk=>Be.made hb (fun _ _ e1=>hI.many _ _ _ _ _ (by simpa using hN) e1) hn hk
theorem WO {es:List Made} (h:∀ e∈es,Bd P L N K e) {f:FuncId} {args:List Value} {h0 h':H} {v:Value} (he:NH es f args h0=some (v,h')):Be P L N K f args h0 v h':=by
 induction es with
 | nil=>cases he
 | cons e es ih=>
  simp only [NH] at he
  split at he
  ·rename_i hfit
   cases he
   unfold XX at hfit
   simp only [Bool.and_eq_true] at hfit
   obtain ⟨⟨⟨h1,h2⟩,h3⟩,h4⟩:=hfit
   obtain rfl:=Nat.eq_of_beq_eq_true h1
   obtain rfl:=fM h3
   refine h e (by simp) h0 (Nat.le_of_ble_eq_true h2) fun p hp=>?_
   have:=List.all_eq_true.1 h4 p hp
   split at this
   ·rename_i o ho;exact ⟨o,ho,uV this⟩
   ·cases this
  ·exact ih (fun e he=>h e (by simp [he])) he
theorem zn.tab {es:List Made} {fJ:Iv} (hU:kH P L N K) (hL:∀ f args h v h',fJ (.func f) args h=some (v,h')→aV P f args h v h') (h:∀ e∈es,Bd P L N K e):zn P L N K (NH es) fJ:=⟨hU,hL,fun _ _ _ _ _ _ e=>WO h e⟩
end Ev
end Go
end
end
