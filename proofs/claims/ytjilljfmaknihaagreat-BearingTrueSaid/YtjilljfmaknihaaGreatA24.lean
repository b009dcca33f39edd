import Derived.Test.YtjilljfmaknihaaGreatA04
import Derived.Test.YtjilljfmaknihaaGreatA21
set_option linter.all false
namespace Go.Ren
open Go.Conc
section
variable[jE]{P:aH}{S:aI->Prop}
theorem Yc{f M x}(h:Ev.Gives M x):∃M' x',next f M=M'/\Ev.Gives M' x':=by
 rcases h with rfl|⟨rfl,rfl⟩
 .exact⟨_,_,rfl,.inl rfl⟩
 exact⟨_,_,rfl,.inr ⟨rfl,rfl⟩⟩
theorem ab2(C:bz P)(hS:mM P S){m B}(D){fr ops i rest k o}(hm:fr.mode=.run)(hr:fr.roundOf=none)(ht:fr.todo=.inRegion ops (i::rest)::k)(ho:ops[i]?=some o)(q:pG P S o)(E:∀x,ed P S x->BG (fr.eval x))(hl:∀(w) c d g,o.op=.call c->resolve fr.eval c o.type=pure d->d.target.leads P w d.args=some g->S g){v:ay}{V:(Nat->Question->Nat)->ay}{fr1:(Nat->Question->Nat)->aC}(hp:∀t,bf (fr1 t).mode)(j:∀t,∃M x,(execOp fr.eval o).run P (wt v t)=.ok M (V t)/\Ev.Gives M x)(t:Nat->Question->Nat)(f':Nat->Nat)(w1 w2:ay)(es:Array Event)(hf:yZ f')(hx:∀g,g<P.globals.size->f' g=g)(hs:qJ f' (kd P S) (wt v t) w1)(s:nG f' (wt v t) (V t) w1)(h:stepG P m (bF f' B (G fr [bottom])) w1=.go (bF f' B (G (fr1 t) [bottom])) w2 es):stepG P m (uH D (bF f' B (G fr [bottom]))) w1=.go (uH D (bF f' B (G (fr1 t) [bottom]))) w2 es:=by
 have⟨M,x,h1,h2⟩:=j t;have H:=vY (P:=P) (S:=S) hf hx C hs hS q E (fun c d g a b c'=>hl _ c d g a b c');have y:=mf P (execOp fr.eval o) (wt v t) #[];rw[h1] at y;generalize F:(execOp fr.eval o).runT P _ #[]=z at y;have⟨z,es1⟩:=z;cases y;have⟨b,K,g1,J,_⟩:=H.ok #[] M (V t) es1 (fun e he=>by simp at he) F s;have A:=mf P (execOp (frame f' fr).eval o) w1 (#[].map (event f'));rw[g1] at A;have hrun:(execOp (frame f' fr).eval o).run P w1=.ok b K:=A.symm;have hb:b=next f' M:=J.1;have⟨M',x',I,u⟩:=Yc (f:=f') h2;rw[I] at hb;subst hb;have l:(frame f' fr).todo=.inRegion ops (i::rest)::k.map (item f'):=by simp[frame,ht,item]
 have r:(frame f' fr).mode=.run:=by simp[frame,hm,mode]
 have n:(frame f' fr).roundOf=none:=by simp[frame,hr]
 have p:bf (frame f' (fr1 t)).mode:=by have:=hp t;show bf (mode f' (fr1 t).mode);generalize (fr1 t).mode=md at this⊢;cases md<;>first|trivial|exact this.elim
 refine aev D r n l ho ?_ ?_ ?_ ?_ h p
 .intro w' hh;have hh:Sem.run P (execOp (frame f' fr).eval o) w1=_:=hh;rw[hrun] at hh;rcases u with rfl|⟨rfl,_⟩<;>cases hh
 .intro d w' hh;have hh:Sem.run P (execOp (frame f' fr).eval o) w1=_:=hh;rw[hrun] at hh;rcases u with rfl|⟨rfl,_⟩<;>cases hh
 .intro d w' hh;have hh:Sem.run P (execOp (frame f' fr).eval o) w1=_:=hh;rw[hrun] at hh;rcases u with rfl|⟨rfl,_⟩<;>cases hh
 intro d w' hh;have hh:Sem.run P (execOp (frame f' fr).eval o) w1=_:=hh;rw[hrun] at hh;cases hh
theorem RI{m B}(D){fr}(hm:fr.mode=.run)(hr:fr.roundOf=none)(ht:Vo fr.todo=true){fr1}(f')(w1 w2)(es)(h:stepG P m (bF f' B (G fr [bottom])) w1=.go (bF f' B (G fr1 [bottom])) w2 es):stepG P m (uH D (bF f' B (G fr [bottom]))) w1=.go (uH D (bF f' B (G fr1 [bottom]))) w2 es:=by
 have a:Vo (frame f' fr).todo=true:=by
  show Vo (fr.todo.map (item f'))=true;cases b:fr.todo with
  |nil=>rfl
  |cons it k=>
   rw[b] at ht;cases it with
   |code c=>cases c<;>first|(cases ht;done)|rfl
   |inRegion ops l=>cases l<;>first|(cases ht;done)|rfl
   |_=>first|(cases ht;done)|rfl
 exact YO (F:=frame f' fr) D (by simp[frame,hm,mode]) (by simp[frame,hr]) a h
end
end Go.Ren
