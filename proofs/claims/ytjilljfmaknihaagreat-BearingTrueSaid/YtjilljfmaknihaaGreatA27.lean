import Derived.Test.YtjilljfmaknihaaGreatA14
import Derived.Test.YtjilljfmaknihaaGreatA25
set_option linter.all false
namespace Go.Crew
open Go.Conc Go.ConcN Go.Ren
section
variable[jE][aX]{P:aH}{S:aI->Prop}{ty:aZ}{Wg Ch:Nat}{Ro:Nat->Prop}{pay:Nat->aB ae}
theorem Dj{n}:rV S n #[undef]:=fun H a h h' _=>by unfold vals;simp[tX,fU,iw];rw[@fP _ H aj _ h,@fP _ a aj _ h']
theorem sgo{own Hid f v w cs n Next fr ops i rest k o t g pre caps e}(hp:eX P S Ro own Hid f (G fr cs) v w)(hm:fr.mode=.run)(a:fr.roundOf=none)(hk:fr.kind≠.early)(ht:fr.todo=.inRegion ops (i::rest)::k)(ho:ops[i]?=some o)(hw:Region.wanted o (yielded ops fr.tmps)=true)(c:o.op=.go {callee:=.value (.tmp t),args:=#[],argTypes:=e})(j:fr.tmps.getD t undef=.func g pre caps){C}(d:∀b,C b->b<v.heap.size)(l:∀b x,C b->v.heap[b]?=some x->isCells x=true)(child:bu P Ro (Live ty Wg Ch) false (kN (P5 P ty Wg Ch Ro (pay n))) ⟨born P (deferred f {target:=.fn g caps,args:=pre}),w,given own f C⟩)(next:eX P S Ro (kept own f C) Hid f (G (fr.finish undef) cs) (lG C v) w->Next ⟨bF f [] (G (fr.finish undef) cs),w,kept own f C⟩):SGo P ty Wg Ch Ro pay n Next (bF f [] (G fr cs)) w own:=⟨_,_,kept own f C,given own f C,aki hm a hk ht hp.ok.wX.frame.items ho hw c j f true _ w,fun _ h=>h.1,fun _ h=>h.1,fun _ h h'=>h.2 h'.2,child,next (eX.adD hp d l (hp.ok.put Dj))⟩
end
section
variable{P:aH}
def under(P:aH):aC:={ (default:aC) with fn:=P.funcs.size,defers:=[],mode:=.panicking [goexitEntry]}
theorem G6{wc fn}(hf:P.funcs[wc]?=some fn)(hname:(fn.name == "runtime.NumGoroutine")=false)(hb:fn.body.isNone=false)(args)(w)(es) :
  (callFunc wc args).runT P w es=(.ok (.enter wc args) w,es):=by
 have h1:¬fn.name = "runtime.NumGoroutine" := by simpa using hname
 have h2:¬fn.body=none:=by cases hx:fn.body<;>simp_all
 have e:(callFunc wc args).runT P w es=(match P.funcs[wc]? with
  |none=>stuck "call: no such function"
  |some fn=>if fn.name == "runtime.NumGoroutine" then pure .numGoroutine else if fn.body.isNone then(callFunc wc args) else pure (.enter wc args):Sem Next).runT P w es:=by
  unfold callFunc;show(match P.funcs[wc]? with
   |none=>_
   |some fn=>_:Sem Next).runT P w es=_
  rw[hf];simp only[hname,hb];rfl
 rw[e,hf];simp only[hname,hb];rfl
theorem ag3{wc fn pre caps}(hf:P.funcs[wc]?=some fn)(a:(fn.name == "runtime.NumGoroutine")=false)(hb:fn.body.isNone=false)(m)(w) :
  stepG P m (born P {target:=.fn (.func wc) caps,args:=pre}) w=.go (G (Frame.enter P wc (pre++caps) .deferred) [under P]) w #[]:=by
 unfold born stepG;dsimp only;unfold unwind callDeferred;dsimp only;have h:=G6 hf a hb (pre++caps) w #[];have h2:(invoke (.fn (.func wc) caps) pre).runT P w #[]=(.ok _ w,#[]):=h;rw[aU (by simp)];simp only[h2,seen_none];rfl
end
open Go.RowKit Go.Conc.Lib Go.ConcR.Gen Go.ConcN.Gen
open Go.ConcR (KK wgBlock WgAt stA smA rd wr DC0)
section
variable[jE][aX]{P:aH}{S:aI->Prop}{L:WgLink}{Ro:Nat->Prop}{Wg Ch:Nat}{pay:Nat->aB ae}
end
section
variable[jE][aX]{P:aH}{S:aI->Prop}{L:WgLink}{Ro:Nat->Prop}{Wg Ch:Nat}
theorem Xw(H:WgLib P L){own Hid f f0 v w wA n0 End fr cs ops i rest k o x b ats}(hp:eX P S Ro own Hid f (G fr cs) v w)(hW:¬Ro Wg/\¬own Wg)(hlive:Live L.tWg Wg Ch w)(hm:fr.mode=.run)(hro:fr.roundOf=none)(hk:fr.kind≠.early)(ht:fr.todo=.inRegion ops (i::rest)::k)(ho:ops[i]?=some o)(hw:Region.wanted o (yielded ops fr.tmps)=true)(hop:o.op=.call {callee:=.value (.func L.wait),args:=#[x],argTypes:=ats})(hx:ed P (Nm S) x)(hv:fr.eval x=.pointer (some ⟨b,0,none⟩))(hb:f b=Wg)(hE:End (G (fr.finish (.tuple #[])) cs) v)(hr:bP Ro (fun _=>False) wA w)(hag:∀j,j<n0->f j=f0 j)(hn:n0<=v.heap.size):bu P Ro (Live L.tWg Wg Ch) true (kM Wg (SKd P L.tWg Wg Ch Ro (Head P S L Ro Hid Wg Ch wA n0 f0 End))) ⟨bF f [] (G fr cs),w,own⟩:=by
 have e:=Dz hm hro ht f;have hw':Region.wanted o (yielded ops (vals f fr.tmps))=true:=by rw[gz];exact hw
 have hk':=hk;have hfix:=hp.fix;have hgS:bF f [] (G fr cs)=G ((frame f fr).at {tmps:=vals f fr.tmps,defers:=fr.defers.map (deferred f)} (.inRegion ops (i::rest)::k.map (item f))) (stk f [] cs):=by rw[<-e];rfl
 have hargs:(#[x]:Array fH).map (Act.eval {tmps:=vals f fr.tmps,defers:=fr.defers.map (deferred f)})=#[.pointer (some ⟨Wg,0,none⟩)]:=by rw[tJ];simp[tX,fU,iw];rw[iU (S:=Nm S) hfix (fun _ _=>rfl) fr hx,hv];simp[addr,hb,Frame.eval]
 rw[hgS];refine eH 2 hlive (Goes.step rfl fun w₁ h₁=>?_);refine goes_call ho hw' hk' hop H.f_wait (nm_wait L) rfl ⟨by u_nil,?_⟩;rw[hargs];refine gG fun w₂ h₂=>?_;have hfin:G ((frame f fr).at (Act.put {tmps:=vals f fr.tmps,defers:=fr.defers.map (deferred f)} ((ops[i]?).bind (·.dst)) (.tuple #[])) (.inRegion ops rest::k.map (item f))) (stk f [] cs)=bF f [] (G (fr.finish (.tuple #[])) cs):=by
  have h1:(frame f fr).finish (.tuple #[])=frame f (fr.finish (.tuple #[])):=by
   have:=dQ (f:=f) fr (.tuple #[]) hp.ok.wX.frame.items
   rwa[cu (v:=.tuple #[]) rfl f] at this
  have h2:bF f [] (G (fr.finish (.tuple #[])) cs)=G (frame f (fr.finish (.tuple #[]))) (stk f [] cs):=rfl;rw[h2,<-h1]
  conv=>rhs;rw[e]
  rw[JV]
 have hput:rV S v.heap.size #[.tuple #[]]:=fun H H' h h' _=>by unfold vals;simp only[tX,fU,iw];rw[uO,uO,DJ,DJ]
 have hok2:=hp.ok.put hput;have hp2:eX P S Ro own Hid f (G (fr.finish (.tuple #[])) cs) v w:=⟨hok2,hp.inj,hp.fix,hp.rq,hp.held⟩;exact Yq (b₀:=frame f fr) (a₀:={tmps:=vals f fr.tmps,defers:=fr.defers.map (deferred f)}) (ops₀:=ops) (i₀:=i) (rest₀:=rest) (k₀:=k.map (item f)) (w0:=w) H (rg h₁ h₂) hW hE hp2 hfin hr hag hn
end
end Go.Crew
