import Derived.Test.YthhhncgnnnhkmaaGreatChecked
import Derived.WalkKit
import Derived.ProofKit
import Derived.BigQuiet
import Derived.Test.YthhhncgnnnhkmaaGreatA03
set_option linter.all false
namespace Go.Proofs
structure Stays(w w':World):Prop where
 keep:∀(i:Nat) (o:Obj),w.heap[i]?=some o→w'.heap[i]?=some o
 tame:Ev.NoNum w→Ev.NoNum w'
theorem Stays.trans{a b c:World}(h:Stays a b)(h':Stays b c):Stays a c:=⟨fun i o hi=>h'.keep i o (h.keep i o hi),fun hn=>h'.tame (h.tame hn)⟩
theorem Stays.alloc(w:World)(c:Array Value)(e:TypeId):Stays w (w.alloc (.cells c e)):=⟨fun i x hi=>by
 have:=(Array.getElem?_eq_some_iff.1 hi).1
 show(w.heap.push _)[i]?=_
 rw[Array.getElem?_push,if_neg (by omega)];exact hi,fun hn=>hn.push (o:=.cells c e) rfl rfl⟩
set_option maxHeartbeats 1000000 in
theorem Tryz.within(n a b:Int)(w:World):Calls Tryz.prog 78 #[.int .i64 n,.int .i64 a,.int .i64 b] w fun e w'=>e=.returned (.bool (decide (a≤n)&&decide (n≤b)))∧w'=w:=by
 go_enter Tryz.func78,Tryz.ntmps78
 go_wp2
 all_goals go_ret
 .rename_i h;simp[h]
 .rename_i h;simp[Int.not_le.2 h]
set_option maxHeartbeats 1000000 in
theorem Tryz.either(c:Bool)(a b:Int)(w:World):Calls Tryz.prog 80 #[.bool c,.int .i64 a,.int .i64 b] w fun e w'=>e=.returned (.int .i64 (if c then a else b))∧w'=w:=by
 go_enter Tryz.func80,Tryz.ntmps80
 cases c
 all_goals go_wp2
 all_goals go_ret
 all_goals exact⟨rfl,rfl⟩
set_option maxHeartbeats 1000000 in
theorem Tryz.place(e n:Int)(w:World):Calls Tryz.prog 40 #[.agg #[.int .i64 e,.int .i64 n]] w fun x w'=>x=.returned (.bool ((decide (-20≤e)&&decide (e≤20))&&(decide (-20≤n)&&decide (n≤20))))∧w'=w.alloc (.cells #[.int .i64 e,.int .i64 n] 27):=by
 go_enter Tryz.func40,Tryz.ntmps40
 go_wp2_with (go_at_call 78;refine(Tryz.within _ _ _ _).mono ?_;rintro e w' ⟨rfl,rfl⟩)
 all_goals go_ret
 .rename_i h;exact⟨by simp[h.1,h.2],rfl⟩
 .rename_i h
  refine⟨?_,rfl⟩
  have:(decide (-20≤e)&&decide (e≤20))=false:=by simpa using h
  rw[this];rfl
def betw(c d:Bool):Int:=if d then(if c then 1 else 7) else(if c then 3 else 5)
set_option maxHeartbeats 1000000 in
theorem Tryz.between(c d:Bool)(w:World):Calls Tryz.prog 79 #[.bool c,.bool d] w fun e w'=>e=.returned (.int .i64 (betw c d))∧w'=w:=by
 go_enter Tryz.func79,Tryz.ntmps79
 cases d
 all_goals go_wp2_with (go_at_call 80;refine(Tryz.either _ _ _ _).mono ?_;rintro e w' ⟨rfl,rfl⟩)
 all_goals go_ret
 all_goals exact⟨rfl,rfl⟩
def trueT(x y:Int):Int:=
 if (5*if (if x < -x then -x else x)<if y < -y then -y else y then if y < -y then -y else y else if x < -x then -x else x)<12*if (if y < -y then -y else y)<if x < -x then -x else x then if y < -y then -y else y else if x < -x then -x else x then
  betw (decide (0<x)) (decide (0<y)) else
 if (if x < -x then -x else x)<(if y < -y then -y else y) then(if decide (0<y) then 0 else 4) else if decide (0<x) then 2 else 6
theorem Stays.drewN{a b:World}(h:Stays a b)(n:Nat):Stays a (b.drewN n):=⟨h.keep,fun hn=>(h.tame hn).same rfl⟩
set_option maxHeartbeats 4000000 in
theorem Tryz.truly(e n e2 n2:Int)(h:-20≤e∧e≤20∧-20≤n∧n≤20∧-20≤e2∧e2≤20∧-20≤n2∧n2≤20)(w:World):Calls Tryz.prog 41 #[.agg #[.int .i64 e,.int .i64 n],.agg #[.int .i64 e2,.int .i64 n2]] w fun x w'=>x=.returned (.int .i64 (trueT (e2-e) (n2-n)))∧Stays w w':=by
 obtain⟨h1,h2,h3,h4,h5,h6,h7,h8⟩:=h
 have d1:decide (0<e2-e)=decide (e<e2):=decide_eq_decide.2 (by omega)
 have d2:decide (0<n2-n)=decide (n<n2):=decide_eq_decide.2 (by omega)
 go_enter Tryz.func41,Tryz.ntmps41
 go_wp2
 go_quiet (fail)
 go_wp2_with (first|(go_at_call 79;refine(Tryz.between _ _ _).mono ?_;rintro e w' ⟨rfl,rfl⟩)|(go_at_call 80;refine(Tryz.either _ _ _ _).mono ?_;rintro e w' ⟨rfl,rfl⟩))
 all_goals go_ret
 all_goals refine⟨?_,((Stays.alloc _ _ _).trans (Stays.alloc _ _ _)).drewN _⟩
 all_goals show Ending.returned (Value.int IntKind.i64 _)=_
 all_goals unfold trueT
 all_goals rw[d1,d2]
 all_goals clear d1 d2
 all_goals refine congrArg (fun z=>Ending.returned (Value.int IntKind.i64 z)) ?_
 all_goals first
  |rfl
  |exact(if_pos (by omega)).symm
  |exact((if_neg (by omega)).trans ((if_pos (by omega)).trans (if_pos (decide_eq_true (by omega))))).symm
  |exact((if_neg (by omega)).trans ((if_pos (by omega)).trans (if_neg (fun hh=>by have:=of_decide_eq_true hh;omega)))).symm
  |exact((if_neg (by omega)).trans ((if_neg (by omega)).trans (if_pos (decide_eq_true (by omega))))).symm
  |exact((if_neg (by omega)).trans ((if_neg (by omega)).trans (if_neg (fun hh=>by have:=of_decide_eq_true hh;omega)))).symm
def same(e n e2 n2:Int):Bool:=decide (e=e2)&&decide (n=n2)
def inR(a b:Int):Prop:=-20≤a∧a≤20∧-20≤b∧b≤20
theorem Tryz.placeT(a b:Int)(h:inR a b)(w:World):Calls Tryz.prog 40 #[.agg #[.int .i64 a,.int .i64 b]] w fun x w'=>x=.returned (.bool true)∧w'=w.alloc (.cells #[.int .i64 a,.int .i64 b] 27):=by
 have h0:=Tryz.place a b w
 have p1:((decide (-20≤a)&&decide (a≤20))&&(decide (-20≤b)&&decide (b≤20)))=true:=by simp[h.1,h.2.1,h.2.2.1,h.2.2.2]
 rw[p1] at h0
 exact h0
set_option maxRecDepth 100000 in
set_option maxHeartbeats 1000000 in
theorem Tryz.trueS(e n:Int)(r1:inR e n)(w:World):Calls Tryz.prog 9 #[.agg #[.int .i64 e,.int .i64 n],.agg #[.int .i64 e,.int .i64 n]] w fun x w'=>x=.returned (.tuple #[.int .i64 0,.int .i64 6])∧Stays w w':=by
 have hp:=fun w=>Tryz.placeT e n r1 w
 clear r1
 go_enter Tryz.func9,Tryz.ntmps9
 go_wp2_with (go_at_call 40;refine(hp _).mono ?_;rintro x w1 ⟨rfl,rfl⟩)
 all_goals go_ret2
 all_goals exact⟨rfl,(((Stays.alloc _ _ _).trans (Stays.alloc _ _ _)).trans (Stays.alloc _ _ _)).trans (Stays.alloc _ _ _)⟩
set_option maxRecDepth 100000 in
set_option maxHeartbeats 1000000 in
theorem Tryz.trueD(e n e2 n2 r:Int)(r1:inR e n)(r2:inR e2 n2)(hne:¬(e=e2∧n=n2))(ht:∀w,Calls Tryz.prog 41 #[.agg #[.int .i64 e,.int .i64 n],.agg #[.int .i64 e2,.int .i64 n2]] w fun x w'=>x=.returned (.int .i64 r)∧Stays w w')(w:World):Calls Tryz.prog 9 #[.agg #[.int .i64 e,.int .i64 n],.agg #[.int .i64 e2,.int .i64 n2]] w fun x w'=>x=.returned (.tuple #[.int .i64 r,.int .i64 0])∧Stays w w':=by
 have hp1:=fun w=>Tryz.placeT e n r1 w
 have hp2:=fun w=>Tryz.placeT e2 n2 r2 w
 clear r1 r2
 go_enter Tryz.func9,Tryz.ntmps9
 go_wp2_with (first|(go_at_call 40;first|(with_reducible refine Calls.mono (hp1 _) ?_;rintro x w1 ⟨rfl,rfl⟩)|(with_reducible refine Calls.mono (hp2 _) ?_;rintro x w1 ⟨rfl,rfl⟩))|(go_at_call 41;first|(with_reducible refine Calls.mono (ht _) ?_;rintro x w3 ⟨rfl,hs3⟩)|(subst_vars;with_reducible refine Calls.mono (ht _) ?_;rintro x w3 ⟨rfl,hs3⟩)))
 all_goals first
  |(exfalso;exact hne ⟨by assumption,by assumption⟩)
  |skip
 all_goals go_ret2
 all_goals exact⟨rfl,((((Stays.alloc _ _ _).trans (Stays.alloc _ _ _)).trans (Stays.alloc _ _ _)).trans (Stays.alloc _ _ _)).trans (by assumption)⟩
end Go.Proofs
