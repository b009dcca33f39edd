import Derived.Test.YthhhncgnnnhkmaaGreatA11
import Derived.Test.YthhhncgnnnhkmaaGreatA46
set_option linter.all false
namespace Go.Proofs.Tryz
set_option maxRecDepth 100000
open Go.Inst Go.Ev
theorem quiet_of{f:FuncId}{fn:Func}{c:Code}{args:List Value}{v:Value}(hf:prog.funcs[f]?=some fn)(hb:fn.body=some c)(hn:(fn.name == "runtime.NumGoroutine")=false)(ha:flats args=true)(hv:flat v=true)
  (hc:∀w,Calls prog f ⟨args⟩ w fun e w'=>e=.returned v∧Go.Proofs.Stays w w'):Quiet prog f args [] v:=⟨⟨fn,c,hf,hb,hn⟩,hv,fun ρ args' w hva hr=>by
 rw[hva.flats ha]
 exact(hc w).mono fun e w' ⟨h1,h2⟩=>⟨h1,h2.tame hr.tame,h2.keep⟩⟩
theorem at_q(a b:Int):Quiet prog 22 [k64 a,k64 b] [] (sqv a b):=quiet_ok (hk:=noHook) noHook_ok (d:=10) (nx:=100) (by kernel_rfl)
def trueV(e n e2 n2:Int):Value:=if same e n e2 n2 then tu [k64 0,k64 6] else tu [k64 (trueT (e2-e) (n2-n)),k64 0]
theorem true_q(e n e2 n2:Int)(r1:inR e n)(r2:inR e2 n2):Quiet prog 9 [sqv e n,sqv e2 n2] [] (trueV e n e2 n2):=by
 obtain⟨fn,c,hf,hb,hn⟩:∃fn c,prog.funcs[9]?=some fn∧fn.body=some c∧(fn.name == "runtime.NumGoroutine")=false:=⟨_,_,Tryz.func9,rfl,by kernel_rfl⟩
 unfold trueV
 by_cases h:same e n e2 n2=true
 .rw[if_pos h]
  unfold same at h
  simp only[Bool.and_eq_true,decide_eq_true_eq] at h
  obtain⟨rfl,rfl⟩:=h
  exact quiet_of hf hb hn rfl rfl fun w=>Tryz.trueS e n r1 w
 .rw[if_neg h]
  have hne:¬(e=e2∧n=n2):=fun hh=>h (by unfold same;simp[hh.1,hh.2])
  exact quiet_of hf hb hn rfl rfl fun w=>Tryz.trueD e n e2 n2 _ r1 r2 hne (fun w=>Tryz.truly e n e2 n2 ⟨r1.1,r1.2.1,r1.2.2.1,r1.2.2.2,r2.1,r2.2.1,r2.2.2.1,r2.2.2.2⟩ w) w
def inB(a b:Int):Bool:=decide (-20≤a)&&decide (a≤20)&&(decide (-20≤b)&&decide (b≤20))
theorem inB_ok{a b:Int}(h:inB a b=true):inR a b:=by
 unfold inB at h
 simp only[Bool.and_eq_true,decide_eq_true_eq] at h
 exact⟨h.1.1,h.1.2,h.2.1,h.2.2⟩
theorem inB_of{a b:Int}(h:inR a b):inB a b=true:=by unfold inB;simp[h.1,h.2.1,h.2.2.1,h.2.2.2]
def hkAt:Hook:=fun f args h=>match Nat.beq f 22 with
 |true=>match args with
  |[.int .i64 a,.int .i64 b]=>some (some (sqv a b,h))
  |_=>none
 |false=>none
theorem hkAt_ok:HookOK prog hkAt:=fun f args h v h' e=>by
 unfold hkAt at e
 split at e
 .rename_i hf
  split at e
  .rename_i a b
   simp only[Option.some.injEq,Prod.mk.injEq] at e
   obtain⟨rfl,rfl⟩:=e
   obtain rfl:=Nat.eq_of_beq_eq_true hf
   exact(at_q a b).does (fun _ h=>by simp at h) fun _ h=>by simp at h
  .cases e
 .cases e
def hkT:Hook:=fun f args h=>match Nat.beq f 9 with
 |true=>match args with
  |[.agg ⟨[.int .i64 e,.int .i64 n]⟩,.agg ⟨[.int .i64 e2,.int .i64 n2]⟩]=>match inB e n,inB e2 n2 with
   |true,true=>some (some (trueV e n e2 n2,h))
   |_,_=>some none
  |_=>some none
 |false=>none
theorem hkT_ok:HookOK prog hkT:=fun f args h v h' e=>by
 unfold hkT at e
 split at e
 .rename_i hf
  split at e
  .split at e
   .rename_i h1 h2
    simp only[Option.some.injEq,Prod.mk.injEq] at e
    obtain⟨rfl,rfl⟩:=e
    obtain rfl:=Nat.eq_of_beq_eq_true hf
    exact(true_q _ _ _ _ (inB_ok h1) (inB_ok h2)).does (fun _ h=>by simp at h) fun _ h=>by simp at h
   .cases e
  .cases e
 .cases e
noncomputable def hkW3:Hook:=orHook hkAt hkT
theorem hkW3_ok:HookOK prog hkW3:=orHook_ok hkAt_ok hkT_ok
noncomputable def iN:FuncId→List Value→H→Option (Value×H):=tabK [mFd]
noncomputable def iL:Iv:=invL hkW3
noncomputable def cX:Nat→Code
 |0=>bodyOf prog 5
 |k+1=>seqR (cX k)
noncomputable def rX(k:Nat):Code:=seqL (cX k)
noncomputable def nL:Nat:=5+((fnOf prog 5).ntmps-5)
noncomputable def run(c:Code)(s:St):Option (Ex×St):=codeC prog L N iN iL nL c s
noncomputable def nxt(c:Code)(s:St):St:=match run c s with
 |some (_,s')=>s'
 |none=>s
def isN(x:Option (Ex×St)):Bool:=match x with
 |some (.normal,_)=>true
 |_=>false
theorem run_ok{c:Code}{s:St}(h:isN (run c s)=true):run c s=some (.normal,nxt c s):=by
 unfold nxt
 cases hr:run c s with
 |none=>rw[hr] at h;cases h
 |some x=>
  obtain⟨e,s'⟩:=x
  rw[hr] at h
  cases e<;>first|rfl|cases h
def aL(x0 x1 x2 x3 x4:Int):List Value:=[.int .u8 x0,.int .u8 x1,.int .u8 x2,.int .u8 x3,.int .u8 x4]
def s0(x0 x1 x2 x3 x4:Int):St:=⟨T.put T.deep (T.put T.deep (T.put T.deep (T.put T.deep (T.put T.deep .nil 4 (some (.int .u8 x4))) 3 (some (.int .u8 x3))) 2 (some (.int .u8 x2))) 1 (some (.int .u8 x1))) 0 (some (.int .u8 x0)),⟨.nil,0,[]⟩,[]⟩
def En(x:Int):Int:=IntKind.i64.wrap ((IntKind.i64.wrap x).tmod 10-5)
noncomputable def sA(x0 x1 x2 x3 x4:Int):St:=nxt (rX 1) (nxt (rX 0) (s0 x0 x1 x2 x3 x4))
theorem r0_ok(x0 x1 x2 x3 x4:Int):isN (run (rX 0) (s0 x0 x1 x2 x3 x4))=true:=by kernel_rfl
theorem r1_ok(x0 x1 x2 x3 x4:Int):isN (run (rX 1) (nxt (rX 0) (s0 x0 x1 x2 x3 x4)))=true:=by kernel_rfl
theorem opsO_append{P:Program}{inv:Iv}{ck:Ck}{n:Nat}{all:List Oper}:∀(l1 l2:List Oper) (t:T Value) (h:H),opsO P inv ck n all (l1++l2) t h=(match opsO P inv ck n all l1 t h with
  |some (t1,h1)=>opsO P inv ck n all l2 t1 h1
  |none=>none)
 |[],l2,t,h=>rfl
 |o::l1,l2,t,h=>by
  simp only[List.cons_append,opsO]
  split
  .split
   .split
    .split
     .exact opsO_append l1 l2 _ _
     .rfl
    .rfl
   .rfl
  .split
   .split
    .exact opsO_append l1 l2 _ _
    .rfl
   .rfl
  .rfl
noncomputable abbrev iC:Iv:=invC N iN iL
noncomputable abbrev ckc:Ck:=ckN prog L N
noncomputable def pre(c:Code)(j:Nat)(s:St):Option (T Value×H):=opsO prog iC ckc nL (regO c).toList ((regO c).toList.take j) s.t s.h
noncomputable def post(c:Code)(j:Nat)(t:T Value)(h:H):Option (T Value×H):=opsO prog iC ckc nL (regO c).toList ((regO c).toList.drop (j+1)) t h
def fT(x:Option (T Value×H)):T Value:=match x with|some (t,_)=>t|none=>.nil
def fH(x:Option (T Value×H)):H:=match x with|some (_,h)=>h|none=>H.empty
theorem f_some{x:Option (T Value×H)}(h:x.isSome=true):x=some (fT x,fH x):=by
 cases x with
 |none=>cases h
 |some y=>rfl
def isReg:Code→Bool
 |.region _ _ false=>true
 |_=>false
noncomputable def putAt(c:Code)(j:Nat)(t:T Value)(v:Value):Option (T Value):=setT t nL (opA c j).dst v
def gT(x:Option (T Value)):T Value:=match x with|some t=>t|none=>.nil
noncomputable def aft(c:Code)(j:Nat)(s:St)(v:Value)(h2:H):Option (T Value×H):=post c j (gT (putAt c j (fT (pre c j s)) v)) h2
noncomputable def stepAt(c:Code)(j:Nat)(s:St)(v:Value)(h2:H):St:=⟨fT (aft c j s v h2),fH (aft c j s v h2),s.marks⟩
noncomputable def stepOK(c:Code)(j:Nat)(s:St)(v:Value)(h2:H):Bool:=isReg c&&(pre c j s).isSome&&(match wantedB (regO c).toList (fT (pre c j s)) (opA c j) with|some true=>true|_=>false)&&ckc.go (fT (pre c j s)) (opA c j)&&(putAt c j (fT (pre c j s)) v).isSome&&(aft c j s v h2).isSome&&Nat.blt j (regO c).toList.length
theorem step_at{c:Code}{j:Nat}{s:St}{v:Value}{h2:H}(h:stepOK c j s v h2=true)(he:oneO prog iC (fT (pre c j s)) (fH (pre c j s)) (opA c j).op=some (v,h2)):run c s=some (.normal,stepAt c j s v h2):=by
 unfold stepOK at h
 simp only[Bool.and_eq_true] at h
 obtain⟨⟨⟨⟨⟨⟨h1,h2'⟩,h3⟩,h4⟩,h5⟩,h6⟩,h7⟩:=h
 rw[Nat.blt_eq] at h7
 unfold isReg at h1
 split at h1
 case h_2=>cases h1
 rename_i id ops
 have hd:(regO (.region id ops false)).toList.drop j=opA (.region id ops false) j::(regO (.region id ops false)).toList.drop (j+1):=by
  have h7:j<ops.toList.length:=h7
  show ops.toList.drop j=(ops[j]?.getD default)::ops.toList.drop (j+1)
  rw[List.drop_eq_getElem_cons h7]
  have h8:j<ops.size:=by simpa using h7
  simp[h8]
 have hw:wantedB (regO (.region id ops false)).toList (fT (pre (.region id ops false) j s)) (opA (.region id ops false) j)=some true:=by
  split at h3
  .assumption
  .cases h3
 have e1:=f_some h2'
 have e3:=f_some h6
 have e2:setT (fT (pre (.region id ops false) j s)) nL (opA (.region id ops false) j).dst v=some (gT (putAt (.region id ops false) j (fT (pre (.region id ops false) j s)) v)):=by
  unfold putAt at h5⊢
  cases hx:setT (fT (pre (.region id ops false) j s)) nL (opA (.region id ops false) j).dst v with
  |none=>rw[hx] at h5;cases h5
  |some t=>rfl
 show(match opsO prog iC ckc nL ops.toList ops.toList s.t s.h with
  |some (t,h)=>some (Ex.normal,(⟨t,h,s.marks⟩:St))
  |none=>none)=_
 have key:opsO prog iC ckc nL ops.toList ops.toList s.t s.h=some (fT (aft (.region id ops false) j s v h2),fH (aft (.region id ops false) j s v h2)):=by
  have e0:opsO prog iC ckc nL ops.toList ops.toList s.t s.h=opsO prog iC ckc nL ops.toList (ops.toList.take j++ops.toList.drop j) s.t s.h:=by rw[List.take_append_drop]
  rw[e0,opsO_append]
  have e1:opsO prog iC ckc nL ops.toList (ops.toList.take j) s.t s.h=some (fT (pre (.region id ops false) j s),fH (pre (.region id ops false) j s)):=e1
  rw[e1]
  simp only
  have hd:ops.toList.drop j=opA (.region id ops false) j::ops.toList.drop (j+1):=hd
  rw[hd]
  have hw:wantedB ops.toList (fT (pre (.region id ops false) j s)) (opA (.region id ops false) j)=some true:=hw
  simp only[opsO,hw,h4,he,e2]
  exact e3
 rw[key]
 rfl
theorem iL5{e n e2 n2:Int}(h:H)(h1:inB e n=true)(h2:inB e2 n2=true):iL (.func 9) [sqv e n,sqv e2 n2] h=some (trueV e n e2 n2,h):=by
 have k0:hkT 9 [sqv e n,sqv e2 n2] h=some (some (trueV e n e2 n2,h)):=by
  show(match inB e n,inB e2 n2 with
   |true,true=>some (some (trueV e n e2 n2,h))
   |_,_=>some none)=_
  rw[h1,h2]
 have k1:hkW3 9 [sqv e n,sqv e2 n2] h=some (some (trueV e n e2 n2,h)):=by
  have a1:hkAt 9 [sqv e n,sqv e2 n2] h=none:=rfl
  simp only[hkW3,orHook,a1,k0]
 have k2:hkL hkW3 9 [sqv e n,sqv e2 n2] h=some (some (trueV e n e2 n2,h)):=by
  have a1:bestHook prog invB best 113 9 [sqv e n,sqv e2 n2] h=none:=rfl
  simp only[hkL,orHook,a1,k1]
 show invO prog (hkL hkW3) (59+1) (.func 9) [sqv e n,sqv e2 n2] h=_
 simp only[invO,k2]
section
variable(x0 x1 x2 x3 x4:Int)
noncomputable def hA(x0 x1 x2 x3 x4:Int):H:=(sA x0 x1 x2 x3 x4).h
noncomputable def sB(x0 x1 x2 x3 x4 n z:Int):St:=stepAt (rX 2) 2 (sA x0 x1 x2 x3 x4) (tu [k64 n,k64 z]) (hA x0 x1 x2 x3 x4)
noncomputable def sC(x0 x1 x2 x3 x4 n z m y:Int):St:=stepAt (rX 3) 2 (sB x0 x1 x2 x3 x4 n z) (tu [k64 m,k64 y]) (hA x0 x1 x2 x3 x4)
theorem sB_ok(n z:Int):stepOK (rX 2) 2 (sA x0 x1 x2 x3 x4) (tu [k64 n,k64 z]) (hA x0 x1 x2 x3 x4)=true:=by kernel_rfl
theorem sB_call:oneO prog iC (fT (pre (rX 2) 2 (sA x0 x1 x2 x3 x4))) (fH (pre (rX 2) 2 (sA x0 x1 x2 x3 x4))) (opA (rX 2) 2).op=iL (.func 9) [sqv (En x0) (En x1),sqv (En x2) (En x3)] (hA x0 x1 x2 x3 x4):=by kernel_rfl
theorem sC_ok(n z m y:Int):stepOK (rX 3) 2 (sB x0 x1 x2 x3 x4 n z) (tu [k64 m,k64 y]) (hA x0 x1 x2 x3 x4)=true:=by kernel_rfl
theorem sC_call(n z:Int):oneO prog iC (fT (pre (rX 3) 2 (sB x0 x1 x2 x3 x4 n z))) (fH (pre (rX 3) 2 (sB x0 x1 x2 x3 x4 n z))) (opA (rX 3) 2).op=iL (.func 9) [sqv (En x2) (En x3),sqv (En x0) (En x1)] (hA x0 x1 x2 x3 x4):=by kernel_rfl
end
end Go.Proofs.Tryz
