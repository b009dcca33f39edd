import Derived.Test.YthhhncgnnnhkmaaGreatA16
import Derived.Test.YthhhncgnnnhkmaaGreatA13
set_option linter.all false
namespace Go.Crew
open Go.Conc Go.ConcN Go.Ren
section
variable[Spc][Hidden]{P:Program}{S:FuncId→Prop}{ty:TypeId}{Wg Ch:Nat}{Ro:Nat→Prop}{pay:Nat→Option Pay}
theorem named_undef{n:Nat}:NamedV S n #[undef]:=fun H H' h h' _=>by
 unfold vals
 simp only[List.map_toArray,List.map_cons,List.map_nil]
 rw[@undef_closed _ H noExt _ h,@undef_closed _ H' noExt _ h']
theorem sgo{own Hid:Nat→Prop}{f:Nat→Nat}{v w:World}{cs:List Frame}{n:Nat}{Next:Rank→Prop}{fr:Frame}{ops:Array Oper}{i:Nat}{rest:List Nat}{k:List Item}{o:Oper}{t:Tmp}{g:Fn}{pre caps:Array Value}{ats:Array TypeId}(hp:Priv P S Ro own Hid f (G fr cs) v w)(hm:fr.mode=.run)(hro:fr.roundOf=none)(hk:fr.kind≠.early)(ht:fr.todo=.inRegion ops (i::rest)::k)(ho:ops[i]?=some o)(hw:Region.wanted o (yielded ops fr.tmps)=true)(hop:o.op=.go {callee:=.value (.tmp t),args:=#[],argTypes:=ats})(hv:fr.tmps.getD t undef=.func g pre caps){C:Nat→Prop}(hlt:∀b,C b→b<v.heap.size)(hC:∀b x,C b→v.heap[b]?=some x→isCells x=true)(child:OnWay P Ro (Live ty Wg Ch) false (kN (SPay P ty Wg Ch Ro (pay n))) ⟨born P (deferred f {target:=.fn g caps,args:=pre}),w,given own f C⟩)(next:Priv P S Ro (kept own f C) Hid f (G (fr.finish undef) cs) (hideAt C v) w→Next ⟨gorS f [] (G (fr.finish undef) cs),w,kept own f C⟩):SGo P ty Wg Ch Ro pay n Next (gorS f [] (G fr cs)) w own:=
 ⟨_,_,kept own f C,given own f C,go_st hm hro hk ht hp.ok.gok.frame.items ho hw hop hv f true (stk f [] cs) w,fun _ h=>h.1,fun _ h=>h.1,fun _ h h'=>h.2 h'.2,child,next (Priv.keepPart hp hlt hC (hp.ok.put named_undef))⟩
end
section
variable{P:Program}
def under(P:Program):Frame:={ (default:Frame) with fn:=P.funcs.size,defers:=[],mode:=.panicking [goexitEntry]}
theorem run_callFunc{wc:FuncId}{fn:Func}(hf:P.funcs[wc]?=some fn)(hname:(fn.name == "runtime.NumGoroutine")=false)(hb:fn.body.isNone=false)(args:Array Value)(w:World)(es:Array Event) :
  (callFunc wc args).runT P w es=(.ok (.enter wc args) w,es):=by
 have h1:¬fn.name = "runtime.NumGoroutine" := by simpa using hname
 have h2:¬fn.body=none:=by cases hx:fn.body<;>simp_all
 have e:(callFunc wc args).runT P w es=(match P.funcs[wc]? with
  |none=>stuck "call: no such function"
  |some fn=>if fn.name == "runtime.NumGoroutine" then pure .numGoroutine else if fn.body.isNone then(callFunc wc args) else pure (.enter wc args):Sem Next).runT P w es:=by
  unfold callFunc
  simp only[hf,hname,hb]
  show(match P.funcs[wc]? with
   |none=>_
   |some fn=>_:Sem Next).runT P w es=_
  rw[hf]
  simp only[hname,hb]
  rfl
 rw[e,hf]
 simp only[hname,hb]
 rfl
theorem born_st{wc:FuncId}{fn:Func}{pre caps:Array Value}(hf:P.funcs[wc]?=some fn)(hname:(fn.name == "runtime.NumGoroutine")=false)(hb:fn.body.isNone=false)(m:Bool)(w:World) :
  stepG P m (born P {target:=.fn (.func wc) caps,args:=pre}) w=.go (G (Frame.enter P wc (pre++caps) .deferred) [under P]) w #[]:=by
 unfold born stepG
 dsimp only
 unfold unwind callDeferred
 dsimp only
 have h:=run_callFunc hf hname hb (pre++caps) w #[]
 have h2:(invoke (.fn (.func wc) caps) pre).runT P w #[]=(.ok (.enter wc (pre++caps)) w,#[]):=h
 rw[if_neg (by simp)]
 simp only[h2,seen_none]
 rfl
end
end Go.Crew
