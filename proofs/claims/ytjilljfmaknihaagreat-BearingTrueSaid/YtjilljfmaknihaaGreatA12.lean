import Derived.Test.YtjilljfmaknihaaGreatChecked
import Derived.WalkKit
import Derived.ProofKit
import Derived.BigQuiet
import Derived.Test.YtjilljfmaknihaaGreatA04
set_option linter.all false
set_option maxHeartbeats 4000000
namespace Go.Proofs
structure mJ(w w':ay):Prop where
 keep:∀(i:Nat) (o:Obj),w.heap[i]?=some o->w'.heap[i]?=some o
 fD:Ev.dU w->Ev.dU w'
def Tryz.within(n a b)(w):Calls Tryz.prog 76 #[.int .i64 n,.int .i64 a,.int .i64 b] w fun e w'=>e=.returned (.bool (decide (a<=n)&&decide (n<=b)))/\w'=w:=by
 go_enter Tryz.func76,Tryz.ntmps76;go_wp2;all_goals go_ret
 .rename_i h;simp[h]
 rename_i h;simp[Int.not_le.2 h]
def Tryz.either(c)(a b)(w):Calls Tryz.prog 78 #[.bool c,.int .i64 a,.int .i64 b] w fun e w'=>e=.returned (.int .i64 (if c then a else b))/\w'=w:=by
 go_enter Tryz.func78,Tryz.ntmps78;cases c;all_goals go_wp2
 all_goals go_ret
 all_goals exact⟨rfl,rfl⟩
def Tryz.place(e n)(w):Calls Tryz.prog 39 #[.agg #[.int .i64 e,.int .i64 n]] w fun x w'=>x=.returned (.bool ((decide (-20<=e)&&decide (e<=20))&&(decide (-20<=n)&&decide (n<=20))))/\w'=w.alloc (.cells #[.int .i64 e,.int .i64 n] 27):=by
 go_enter Tryz.func39,Tryz.ntmps39;go_wp2_with (go_at_call 76;refine(Tryz.within _ _ _ _).mono ?_;rintro e w' ⟨rfl,rfl⟩);all_goals go_ret
 .rename_i h;exact⟨by simp[h.1,h.2],rfl⟩
 rename_i h;refine⟨?_,rfl⟩;have:(decide (-20<=e)&&decide (e<=20))=false:=by simpa using h
 rw[this];rfl
def ag5(c d:Bool):Int:=if d then(if c then 1 else 7) else(if c then 3 else 5)
def Tryz.between(c d)(w):Calls Tryz.prog 77 #[.bool c,.bool d] w fun e w'=>e=.returned (.int .i64 (ag5 c d))/\w'=w:=by
 go_enter Tryz.func77,Tryz.ntmps77;cases d;all_goals go_wp2_with (go_at_call 78;refine(Tryz.either _ _ _ _).mono ?_;rintro e w' ⟨rfl,rfl⟩)
 all_goals go_ret
 all_goals exact⟨rfl,rfl⟩
def uC(x y:Int):Int:=
 if (5*if (if x < -x then -x else x)<if y < -y then -y else y then if y < -y then -y else y else if x < -x then -x else x)<12*if (if y < -y then -y else y)<if x < -x then -x else x then if y < -y then -y else y else if x < -x then -x else x then
  ag5 (decide (0<x)) (decide (0<y)) else
 if (if x < -x then -x else x)<(if y < -y then -y else y) then(if decide (0<y) then 0 else 4) else if decide (0<x) then 2 else 6
def same(e n e2 n2:Int):Bool:=decide (e=e2)&&decide (n=n2)
def inR(a b:Int):Prop:=-20<=a/\a<=20/\-20<=b/\b<=20
end Go.Proofs
