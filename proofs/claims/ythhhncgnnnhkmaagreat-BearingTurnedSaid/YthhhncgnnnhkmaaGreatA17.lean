import Derived.Test.YthhhncgnnnhkmaaGreatA03
import Derived.Test.YthhhncgnnnhkmaaGreatA16
set_option linter.all false
namespace Go.Ren
open Go.Conc
section
variable[Spc]{P:Program}{S:FuncId→Prop}
theorem next_gives{f:Nat→Nat}{M:Next}{x:Value}(h:Ev.Gives M x):∃M' x',next f M=M'∧Ev.Gives M' x':=by
 rcases h with rfl|⟨rfl,rfl⟩
 .exact⟨_,_,rfl,.inl rfl⟩
 .exact⟨_,_,rfl,.inr ⟨rfl,rfl⟩⟩
theorem dress_own(hz:ZeroOK P)(hS:SOK P S){m:Bool}{B:List Frame}(D:List Deferred){fr:Frame}{ops:Array Oper}{i:Nat}{rest:List Nat}{k:List Item}{o:Oper}(hm:fr.mode=.run)(hr:fr.roundOf=none)(ht:fr.todo=.inRegion ops (i::rest)::k)(ho:ops[i]?=some o)(hoL:OperOK P S o)(hv:∀x,OpndOK P S x→ValMet (fr.eval x))(hl:∀(w:World) c d g,o.op=.call c→resolve fr.eval c o.type=pure d→d.target.leads P w d.args=some g→S g){v:World}{V:(Nat→Question→Nat)→World}{fr1:(Nat→Question→Nat)→Frame}(hp:∀t,notPanicking (fr1 t).mode)(hlone:∀t,∃M x,(execOp fr.eval o).run P (wt v t)=.ok M (V t)∧Ev.Gives M x)(t:Nat→Question→Nat)(f':Nat→Nat)(w1 w2:World)(es:Array Event)(hf:Inj f')(hx:∀g,g<P.globals.size→f' g=g)(hs:Sim f' (kd P S) (wt v t) w1)(hfr:Fresh f' (wt v t) (V t) w1)(h:stepG P m (gorS f' B (G fr [bottom])) w1=.go (gorS f' B (G (fr1 t) [bottom])) w2 es):stepG P m (dress D (gorS f' B (G fr [bottom]))) w1=.go (dress D (gorS f' B (G (fr1 t) [bottom]))) w2 es:=by
 obtain⟨M,x,h1,h2⟩:=hlone t
 have hR:=run_oper (P:=P) (S:=S) hf hx hz hs hS hoL hv (fun c d g a b c'=>hl _ c d g a b c')
 have e0:=Sem.runT_fst P (execOp fr.eval o) (wt v t) #[]
 rw[h1] at e0
 generalize hq:(execOp fr.eval o).runT P (wt v t) #[]=z at e0
 obtain⟨z,es1⟩:=z
 cases e0
 obtain⟨b,w3,g1,g2,_⟩:=hR.ok #[] M (V t) es1 (fun e he=>by simp at he) hq hfr
 have e1:=Sem.runT_fst P (execOp (frame f' fr).eval o) w1 (#[].map (event f'))
 rw[g1] at e1
 have hrun:(execOp (frame f' fr).eval o).run P w1=.ok b w3:=e1.symm
 have hb:b=next f' M:=g2.1
 obtain⟨M',x',h3,h4⟩:=next_gives (f:=f') h2
 rw[h3] at hb
 subst hb
 have ht':(frame f' fr).todo=.inRegion ops (i::rest)::k.map (item f'):=by simp[frame,ht,item]
 have hm':(frame f' fr).mode=.run:=by simp[frame,hm,mode]
 have hr':(frame f' fr).roundOf=none:=by simp[frame,hr]
 have hp':notPanicking (frame f' (fr1 t)).mode:=by
  have:=hp t
  show notPanicking (mode f' (fr1 t).mode)
  generalize (fr1 t).mode=md at this⊢
  cases md<;>first|trivial|exact this.elim
 refine dress_op D hm' hr' ht' ho ?_ ?_ ?_ ?_ h hp'
 .intro w' hh;have hh:Sem.run P (execOp (frame f' fr).eval o) w1=_:=hh;rw[hrun] at hh;rcases h4 with rfl|⟨rfl,_⟩<;>cases hh
 .intro d w' hh;have hh:Sem.run P (execOp (frame f' fr).eval o) w1=_:=hh;rw[hrun] at hh;rcases h4 with rfl|⟨rfl,_⟩<;>cases hh
 .intro d w' hh;have hh:Sem.run P (execOp (frame f' fr).eval o) w1=_:=hh;rw[hrun] at hh;rcases h4 with rfl|⟨rfl,_⟩<;>cases hh
 .intro d w' hh;have hh:Sem.run P (execOp (frame f' fr).eval o) w1=_:=hh;rw[hrun] at hh;cases hh
theorem dress_txt{m:Bool}{B:List Frame}(D:List Deferred){fr:Frame}(hm:fr.mode=.run)(hr:fr.roundOf=none)(ht:textB fr.todo=true){fr1:Frame}(f':Nat→Nat)(w1 w2:World)(es:Array Event)(h:stepG P m (gorS f' B (G fr [bottom])) w1=.go (gorS f' B (G fr1 [bottom])) w2 es):stepG P m (dress D (gorS f' B (G fr [bottom]))) w1=.go (dress D (gorS f' B (G fr1 [bottom]))) w2 es:=by
 have ht':textB (frame f' fr).todo=true:=by
  show textB (fr.todo.map (item f'))=true
  cases hq:fr.todo with
  |nil=>rfl
  |cons it k=>
   rw[hq] at ht
   cases it with
   |code c=>cases c<;>first|(cases ht;done)|rfl
   |inRegion ops l=>cases l<;>first|(cases ht;done)|rfl
   |_=>first|(cases ht;done)|rfl
 exact dress_text (F:=frame f' fr) (F1:=frame f' fr1) D (by simp[frame,hm,mode]) (by simp[frame,hr]) ht' h
end
end Go.Ren
