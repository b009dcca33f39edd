import Derived.Test.YtjilljfmaknihaaGreatA15
import Derived.Test.YtjilljfmaknihaaGreatA35
set_option linter.all false
namespace Go.Proofs
set_option maxRecDepth 100000
open Go.RowKit Go.Conc Go.Ev Go.Ren Go.Crew
section
variable[M:Mps][E:Ext]{S:aI->Prop}{W:ay}
theorem zU(k)(x):uM S W (.int k x):=FI rfl (fun _=>by simp) (fun _=>by simp)
theorem Yl(x):uM S W (.bool x):=FI rfl (fun _=>by simp) (fun _=>by simp)
theorem yj{a l c}(h:∀x,a=some x->x.block∈enum W):uM S W (.slice a l c):=by
 refine⟨fun H H' f f' hb _=>?_,by rw[bI,Hz]⟩;rw[uP,uP];cases a with
 |none=>rfl
 |some x=>simp[addr,hb _ (h x rfl)]
theorem abG{cs}(h:∀x∈cs,uM S W x):uM S W (.agg cs):=by
 refine⟨fun H H' f f' hb hg=>?_,?_⟩
 .rw[MG,MG];congr 1;exact jL fun x hx=>(h x hx).1 H H' f f' hb hg
 rw[dG];congr 1;unfold vals;exact(jL fun x hx=>(h x hx).2).trans (Xl cs)
theorem tq{b i}{x:ae}(h:W.cell? ⟨b,i,none⟩=some x):b∈enum W/\down W b<(Em (fun _=>True) (EH S W)).heap.size/\(Em (fun _=>True) (EH S W)).cell? ⟨down W b,i,none⟩=some (uk S W x):=by have⟨c,e,fr,h1,_,h2⟩:=cell_of W _ x h;have⟨k1,k2,k3⟩:=agp S h1;refine⟨k1,by rw[zZ,pR];exact k2,?_⟩;have k4:=ad5 k3 (A:=fun _=>True) trivial;simp only[World.cell?,k4,LG];simp[h2]
theorem TP{k x}:uk S W (.int k x)=.int k x:=by rw[AY (zU k x),@dK M bY aj]
theorem adw{x}:uk S W (.bool x)=.bool x:=by rw[AY (Yl x),@dY M bY aj]
theorem agm{a cs}(h:Lp W a cs):Lp (Em (fun _=>True) (EH S W)) (a.map (addr (down W))) cs:=fun i hi=>by obtain⟨b,o,rfl,h2,h3,h4⟩:=h i hi;have k3:=tq (S:=S) h3;have k4:=tq (S:=S) h4;rw[TP] at k3 k4;exact⟨down W b,o,rfl,k3.2.1,k3.2.2,k4.2.2⟩
theorem agl{a}{ws:List IZ}(h:LM W a ws):LM (Em (fun _=>True) (EH S W)) (a.map (addr (down W))) ws:=fun i hi=>by obtain⟨b,o,rfl,h2,h3,h4,h5,h6,h7⟩:=h i hi;have k3:=tq (S:=S) h3;have k4:=tq (S:=S) h4;have k5:=tq (S:=S) h5;have k6:=tq (S:=S) h6;have k7:=tq (S:=S) h7;simp only[TP,adw] at k3 k4 k5 k6 k7;exact⟨down W b,o,rfl,k3.2.1,k3.2.2,k4.2.2,k5.2.2,k6.2.2,k7.2.2⟩
theorem ZY{a}{l:List Int}(h:ED W a l):ED (Em (fun _=>True) (EH S W)) (a.map (addr (down W))) l:=fun i hi=>by obtain⟨b,o,rfl,h2,h3⟩:=h i hi;have k3:=tq (S:=S) h3;rw[TP] at k3;exact⟨down W b,o,rfl,k3.2.1,k3.2.2⟩
theorem abC(A):dU (Em A (EH S W)):=fun x o hx=>by have⟨x0,h1,h2⟩:=yw hx;obtain⟨_,c,e,fr,_,rfl⟩:=oH S W h1;rcases h2 with⟨_,rfl⟩|⟨_,rfl⟩<;>rfl
end
end Go.Proofs
