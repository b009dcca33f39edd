/- Of the proof of BearingTurned: Wk2 Chk1 Chk2 -/
import Derived.Test.YtlpjchhijenlbaaGreatA11
set_option linter.unusedSectionVars false
set_option linter.unusedVariables false
set_option linter.unusedSimpArgs false
section
section
namespace Go
namespace Ren
open Go.Conc
variable {P:Program}
def lL (D:List Deferred) (g:Goroutine):Goroutine:={ g with frame:={ g.frame with defers:=D } }
theorem JO (D:List Deferred) (g:Goroutine):(lL D g).status=g.status:=rfl
theorem rM (F:Frame) (D:List Deferred) (v:Value):({ F with defers:=D }:Frame).finish v={ F.finish v with defers:=D }:=by
 unfold Frame.finish
 dsimp only
 split<;>rfl
theorem VG {m:Bool} {F F1:Frame} {cs:List Frame} {w w2:World} {es:Array Event} (D:List Deferred) (hm:F.mode = .run) (hr:F.roundOf=none) {ops:Array Oper} {i:Nat} {rest:List Nat} {k:List Item} {o:Oper} (ht:F.todo = .inRegion ops (i::rest)::k) (ho:ops[i]? = some o)
  (hn:∀ w',(execOp F.eval o).run P w ≠ .ok .recover w') (hd:∀ d w',(execOp F.eval o).run P w ≠ .ok (.defer d) w') (hsp:∀ d w',(execOp F.eval o).run P w ≠ .ok (.spawn d) w') (hio:∀ g w',(execOp F.eval o).run P w ≠ .halt (.unsupported (.initOrder g)) w')
  (h:stepG P m (G F cs) w = .go (G F1 cs) w2 es) (hp:dB F1.mode):stepG P m (G { F with defers:=D } cs) w = .go (G { F1 with defers:=D } cs) w2 es:=by
 obtain ⟨fn,tmps,todo,defers,mode,kind,ro⟩:=F
 dsimp only at hm hr ht
 subst hm hr ht
 have hev:(Frame.mk fn tmps (.inRegion ops (i::rest)::k) D .run kind none).eval=(Frame.mk fn tmps (.inRegion ops (i::rest)::k) defers .run kind none).eval:=by
  funext x;cases x<;>rfl
 unfold Conc.G stepG stepG.exec at h ⊢
 dsimp only at h ⊢
 split at h
 ·rename_i hw
  rw [if_pos hw]
  unfold stepG.oper Frame.oper? at h ⊢
  dsimp only at h ⊢
  rw [ho] at h ⊢
  dsimp only at h ⊢
  rw [hev]
  generalize (Frame.mk fn tmps (.inRegion ops (i::rest)::k) defers .run kind none).eval=ev at h hn hd hsp hio ⊢
  unfold stepG.apply at h ⊢
  simp only [Sem.runT_eq,if_true] at h ⊢
  cases hx:(execOp ev o).run P w with
  | halt a b=>
   rw [hx] at h
   exfalso
   have hsm:∀ st es0,GStep.after es0 st = .go (Goroutine.mk F1 cs .running none none) w2 es→¬ Dq st:=fun st es0 h1 hv=>by
    have h2:=hv.after (es:=es0)
    rw [h1] at h2
    exact h2 ⟨rfl,.inl rfl,hp⟩
   cases a with
   | panic v=>exact hsm _ _ h (jJ _ _ _ _ _ _)
   | goexit=>exact hsm _ _ h (jJ _ _ _ _ _ _)
   | blocked=>exact hsm _ _ h (fun h=>by rcases h.status with h | h<;>cases h)
   | waiting=>exact hsm _ _ h (fun h=>by rcases h.status with h | h<;>cases h)
   | exit c=>exact hsm _ _ h trivial
   | fatal m=>exact hsm _ _ h (oU _ _ _ _ _ _)
   | throw m=>exact hsm _ _ h (ui _ _ _ _ _)
   | unsupported u=>
    cases u with
    | initOrder g=>exact hio g b hx
    | _=>exact hsm _ _ h trivial
   | stuck s=>exact hsm _ _ h trivial
  | ok M w3=>
   rw [hx] at h
   cases M<;>simp only [GStep.after] at h ⊢ <;> first
    | (cases h;done)
    | (cases h;rfl)
    | (exact absurd hx (hn _))
    | (exact absurd hx (hd _ _))
    | (exact absurd hx (hsp _ _))
    | (have h2:=congrArg (fun s:GStep=>match s with | .go g _ _=>g.callers.length | _=>0) h
       simp at h2;done)
    | (split at h<;>cases h;done)
    | skip
 ·rename_i hw
  rw [if_neg hw]
  unfold Frame.finish at h ⊢
  dsimp only at h ⊢
  cases h
  rfl
theorem MF {m:Bool} {F F1:Frame} {cs:List Frame} {w w2:World} {es:Array Event} (D:List Deferred) (hm:F.mode = .run) (hr:F.roundOf=none) {ops:Array Oper} {i:Nat} {rest:List Nat} {k:List Item} {o:Oper} (ht:F.todo = .inRegion ops (i::rest)::k) (ho:ops[i]? = some o)
  (hn:∀ w',(execOp F.eval o).run P w ≠ .ok .recover w') (hd:∀ d w',(execOp F.eval o).run P w ≠ .ok (.defer d) w') (hsp:∀ d w',(execOp F.eval o).run P w ≠ .ok (.spawn d) w') (hio:∀ g w',(execOp F.eval o).run P w ≠ .halt (.unsupported (.initOrder g)) w')
  (hstk:∀ r s w',(execOp F.eval o).run P w ≠ .ok (.stack r s) w') (h:stepG P m (G F cs) w = .go (G F1 (F::cs)) w2 es) (hp:dB F1.mode):stepG P m (G { F with defers:=D } cs) w = .go (G F1 ({ F with defers:=D }::cs)) w2 es:=by
 obtain ⟨fn,tmps,todo,defers,mode,kind,ro⟩:=F
 dsimp only at hm hr ht
 subst hm hr ht
 have hev:(Frame.mk fn tmps (.inRegion ops (i::rest)::k) D .run kind none).eval=(Frame.mk fn tmps (.inRegion ops (i::rest)::k) defers .run kind none).eval:=by
  funext x;cases x<;>rfl
 unfold Conc.G stepG stepG.exec at h ⊢
 dsimp only at h ⊢
 split at h
 ·rename_i hw
  rw [if_pos hw]
  unfold stepG.oper Frame.oper? at h ⊢
  dsimp only at h ⊢
  rw [ho] at h ⊢
  dsimp only at h ⊢
  rw [hev]
  generalize (Frame.mk fn tmps (.inRegion ops (i::rest)::k) defers .run kind none).eval=ev at h hn hd hsp hio hstk ⊢
  unfold stepG.apply at h ⊢
  simp only [Sem.runT_eq,if_true] at h ⊢
  cases hx:(execOp ev o).run P w with
  | halt a b=>
   rw [hx] at h
   exfalso
   have hsm:∀ st es0,GStep.after es0 st = .go (Goroutine.mk F1 (Frame.mk fn tmps (.inRegion ops (i::rest)::k) defers .run kind none::cs) .running none none) w2 es→¬ Dq st:=fun st es0 h1 hv=>by
    have h2:=hv.after (es:=es0)
    rw [h1] at h2
    exact h2 ⟨rfl,.inl rfl,hp⟩
   cases a with
   | panic v=>exact hsm _ _ h (jJ _ _ _ _ _ _)
   | goexit=>exact hsm _ _ h (jJ _ _ _ _ _ _)
   | blocked=>exact hsm _ _ h (fun h=>by rcases h.status with h | h<;>cases h)
   | waiting=>exact hsm _ _ h (fun h=>by rcases h.status with h | h<;>cases h)
   | exit c=>exact hsm _ _ h trivial
   | fatal m=>exact hsm _ _ h (oU _ _ _ _ _ _)
   | throw m=>exact hsm _ _ h (ui _ _ _ _ _)
   | unsupported u=>
    cases u with
    | initOrder g=>exact hio g b hx
    | _=>exact hsm _ _ h trivial
   | stuck s=>exact hsm _ _ h trivial
  | ok M w3=>
   rw [hx] at h
   cases M<;>simp only [GStep.after] at h ⊢ <;> first
    | (cases h;done)
    | (cases h;rfl)
    | (exact absurd hx (hn _))
    | (exact absurd hx (hd _ _))
    | (exact absurd hx (hsp _ _))
    | (exact absurd hx (hstk _ _ _))
    | (have h2:=congrArg (fun s:GStep=>match s with | .go g _ _=>g.callers.length | _=>0) h
       simp at h2;done)
    | (split at h<;>cases h;done)
    | skip
 ·rename_i hw
  have h2:=congrArg (fun s:GStep=>match s with | .go g _ _=>g.callers.length | _=>0) h
  simp at h2
def Kz:List Item→Bool
 | []=>true
 | .code (.rangeFunc ..)::_=>false
 | .code (.refuse _)::_=>false
 | .code _::_=>true
 | .inBlock _::_=>true
 | .inScope _::_=>true
 | .inLoop _::_=>true
 | .inRegion _ []::_=>true
 | _=>false
theorem O8 {m:Bool} {F F1:Frame} {cs:List Frame} {w w2:World} {es:Array Event} (D:List Deferred) (hm:F.mode = .run) (hr:F.roundOf=none) (ht:Kz F.todo=true)
  (h:stepG P m (G F cs) w = .go (G F1 cs) w2 es):stepG P m (G { F with defers:=D } cs) w = .go (G { F1 with defers:=D } cs) w2 es:=by
 obtain ⟨fn,tmps,todo,defers,mode,kind,ro⟩:=F
 dsimp only at hm hr ht
 subst hm hr
 have hev:(Frame.mk fn tmps todo D .run kind none).eval=(Frame.mk fn tmps todo defers .run kind none).eval:=by
  funext x;cases x<;>rfl
 unfold Conc.G stepG stepG.exec at h ⊢
 dsimp only at h ⊢
 rw [hev]
 cases todo with
 | nil=>
  simp only at h ⊢
  cases h;rfl
 | cons it k=>
  cases it with
  | code c=>
   cases c with
   | cond x a b=>
    dsimp only at h ⊢
    generalize (Frame.mk fn tmps (.code (.cond x a b)::k) defers .run kind none).eval x=u at h ⊢
    cases u<;>first | (cases h;done) | (cases h;rfl)
   | region id ops d=>
    dsimp only at h ⊢
    cases d with
    | false=>cases h;rfl
    | true=>
     simp only [Bool.not_true,Bool.false_eq_true,if_false] at h ⊢
     cases hx:(choose (.order fn id)).run P w with
     | ok t w3=>rw [hx] at h;cases h;rfl
     | halt t w3=>rw [hx] at h;cases h
   | exit id=>
    dsimp only at h ⊢
    cases hx:exitTo id k with
    | some z=>rw [hx] at h;cases h;rfl
    | none=>rw [hx] at h;simp at h
   | goto l=>
    dsimp only at h ⊢
    cases hx:gotoIn l k with
    | some z=>rw [hx] at h;cases h;rfl
    | none=>rw [hx] at h;simp at h
   | rangeFunc=>cases ht
   | refuse=>cases ht
   | _=>first | (cases h;rfl) | (simp at h ⊢;cases h;rfl)
  | inRegion ops l=>
   cases l with
   | nil=>cases h;rfl
   | cons=>cases ht
  | inBlock=>cases h;rfl
  | inScope=>cases h;rfl
  | inLoop=>cases h;rfl
  | _=>cases ht
end Ren
end Go
end
end
section
section
namespace Go
namespace Ren
section
variable (P:Program) (L:List FuncId)
def bEq:Nat→TypeId→Bool
 | 0,_=>false
 | n+1,t=>match P.underlying t with
  | some .bool | some (.int _) | some (.float _) | some (.complex _) | some .string | some (.chan ..) | some (.slice _) | some (.map ..) | some (.func ..)=>true
  | some (.struct fs)=>fs.toList.all fun g=>bEq n g.type
  | some (.array _ e)=>bEq n e
  | _=>false
def bMap (t:TypeId):Bool:=match P.underlying t with
 | some (.map k _)=>bEq P 64 k
 | _=>true
def MV (t:TypeId):Bool:=match P.underlying t with
 | some (.int _)=>true
 | _=>false
def bLen (ts:Array TypeId):Bool:=match ts.toList with
 | t0::_=>match P.underlying t0 with
  | some .string | some (.slice _) | some (.array ..)=>true
  | _=>false
 | []=>false
def bApp (ts:Array TypeId):Bool:=match ts.toList with
 | _::t1::_=>!MV P t1
 | _=>true
def bCap (ts:Array TypeId):Bool:=match ts.toList with
 | t0::_=>match P.underlying t0 with
  | some (.slice _)=>true
  | _=>false
 | []=>true
def Gu (b:Builtin) (ts:Array TypeId):Bool:=match b with
 | .len=>bLen P ts
 | .append=>bApp P ts
 | .cap=>bCap P ts
 | .min | .max | .panic | .copy=>true
 | _=>false
def OD:BinOp→Bool
 | .eql | .neq=>true
 | _=>false
def bFn:Fn→Bool
 | .func g | .via _ _ g _=>L.contains g
 | _=>false
def JX (c:Call):Bool:=match c.callee with
 | .builtin b=>Gu P b c.argTypes
 | .value _=>true
 | .invoke ..=>false
def bOp:Op→Bool
 | .move _ | .assign _ | .pick .. | .alloc _ | .box .. | .build .. | .load .. | .store .. | .nilCheck _ | .unOp .. | .makeInterface .. | .makeSlice .. | .slice ..
 | .fieldAddr .. | .field .. | .indexAddr .. | .index .. | .extract .. | .panic _ | .buildSlice .. | .makeMap .. | .entryStore .. | .range .. | .next .. | .entry _=>true
 | .lookup t _ _ _ | .mapUpdate t _ _ _ | .insert t _ _ _ | .mapEntry t _ _=>bMap P t
 | .binOp op t _ _ _=>!OD op || bEq P 64 t
 | .convert s d _=>MV P s&&MV P d
 | .makeFunc g _ _=>bFn L g
 | .call c=>JX P c
 | _=>false
def jR:Operand→Bool
 | .const v=>aQ v
 | .global g=>decide (g<P.globals.size)
 | .func g=>L.contains g
 | _=>true
def gB (o:Oper):Bool:=bOp P L o.op&&o.op.operands.toList.all (jR P L)
def lN:Code→Bool
 | .region _ ops _=>ops.toList.all (gB P L)
 | .seq a b=>lN a&&lN b
 | .cond c a b=>jR P L c&&lN a&&lN b
 | .block _ a | .loop a | .scope a=>lN a
 | .rangeFunc g _ a b=>jR P L g&&lN a&&lN b
 | _=>true
def jF:Code→Bool
 | .seq a b=>jF a&&jF b
 | .cond c a b=>jR P L c&&jF a&&jF b
 | .block _ a | .loop a | .scope a=>jF a
 | .rangeFunc g _ a b=>jR P L g&&lN P L a&&lN P L b
 | _=>true
def YR (g:FuncId):Bool:=match P.funcs.toList[g]? with
 | some fn=>match fn.body with
  | some body=>!(fn.name == "runtime.NumGoroutine")&&lN P L body
  | none=>false
 | none=>false
def bAll:Bool:=L.all (YR P L)
end
section
variable {P:Program} {L:List FuncId}
theorem JW:∀ (n:Nat) (t:TypeId),bEq P n t=true→IY P t
 | 0,_,h=>by cases h
 | n+1,t,h=>by
  unfold bEq at h
  cases hd:P.underlying t with
  | none=>rw [hd] at h;cases h
  | some d=>
   rw [hd] at h
   cases d<;>first | (cases h;done) | (exact .flat hd trivial) | skip
   case struct fs=>exact .struct hd fun g hg=>JW n g.type (List.all_eq_true.1 h g (Array.mem_toList_iff.2 hg))
   case array m e=>exact .array hd (JW n e h)
theorem DX {t:TypeId} (h:bMap P t=true):Nl P t:=fun k e hk=>by
 unfold bMap at h
 rw [hk] at h
 exact JW _ _ h
theorem Qs {t:TypeId} (h:MV P t=true):∃ k,P.underlying t=some (.int k):=by
 unfold MV at h
 split at h
 ·exact ⟨_,by assumption⟩
 ·cases h
theorem MW {b:Builtin} {ts:Array TypeId} (h:Gu P b ts=true):uw P b ts:=by
 obtain ⟨ts⟩:=ts
 unfold Gu at h
 cases b<;>first | (cases h;done) | exact trivial | skip
 case len=>
  show Wh P _
  simp only [bLen] at h
  cases ts with
  | nil=>cases h
  | cons t0 l=>
   refine ⟨t0,by simp,?_⟩
   dsimp only at h
   cases hd:P.underlying t0 with
   | none=>rw [hd] at h;cases h
   | some d=>
    rw [hd] at h
    cases d<;>first | (cases h;done) | skip
    case string=>exact .inl rfl
    case slice e=>exact .inr (.inl ⟨e,rfl⟩)
    case array n e=>exact .inr (.inr ⟨n,e,rfl⟩)
 case append=>
  show Wq P _
  intro t1 k h1 h2
  simp only [bApp] at h
  cases ts with
  | nil=>simp at h1
  | cons t0 l=>
   cases l with
   | nil=>simp at h1
   | cons t2 l=>
    simp at h1
    subst h1
    dsimp only at h
    unfold MV at h
    rw [h2] at h
    cases h
 case cap=>
  show ∀ t0,_→_
  intro t0 h0
  simp only [bCap] at h
  cases ts with
  | nil=>simp at h0
  | cons t1 l=>
   simp at h0
   subst h0
   dsimp only at h
   cases hd:P.underlying t1 with
   | none=>rw [hd] at h;cases h
   | some d=>
    rw [hd] at h
    cases d<;>first | (cases h;done) | skip
    case slice e=>exact ⟨e,rfl⟩
theorem bFn_ok {g:Fn} (h:bFn L g=true):J5 (· ∈ L) g:=by
 cases g<;>first | (cases h;done) | exact List.contains_iff_mem.1 h
theorem Pv {c:Call} (h:JX P c=true):gI P c:=by
 unfold JX at h
 unfold gI
 cases hc:c.callee with
 | builtin b=>rw [hc] at h;exact MW h
 | value _=>trivial
 | invoke r n=>rw [hc] at h;cases h
theorem bOp_ok {o:Op} (h:bOp P L o=true):Yp P (· ∈ L) o:=by
 cases o<;>first | (cases h;done) | exact trivial | skip
 case lookup t _ _ _=>exact DX h
 case mapUpdate t _ _ _=>exact DX h
 case insert t _ _ _=>exact DX h
 case mapEntry t _ _=>exact DX h
 case binOp op t _ _ _=>
  intro he
  have h':(!OD op || bEq P 64 t)=true:=h
  rcases he with rfl | rfl<;>exact JW _ _ (by simpa [OD] using h')
 case convert s d _=>
  have h':(MV P s&&MV P d)=true:=h
  rw [Bool.and_eq_true] at h'
  exact ⟨Qs h'.1,Qs h'.2⟩
 case makeFunc g _ _=>exact bFn_ok h
 case call c=>exact Pv h
theorem uq {x:Operand} (h:jR P L x=true):bG P (· ∈ L) x:=by
 cases x with
 | tmp t=>trivial
 | const v=>exact h
 | global g=>have h':decide (g<P.globals.size)=true:=h;exact of_decide_eq_true (p:=g<P.globals.size) h'
 | func g=>exact List.contains_iff_mem.1 h
theorem AZ {o:Oper} (h:gB P L o=true):vw P (· ∈ L) o:=by
 unfold gB at h
 rw [Bool.and_eq_true] at h
 exact ⟨bOp_ok h.1,fun x hx=>uq (List.all_eq_true.1 h.2 x (Array.mem_toList_iff.2 hx))⟩
theorem Gt:∀ {c:Code},lN P L c=true→gZ P (· ∈ L) c:=by
 intro c
 induction c with
 | region id ops d=>exact fun h o ho=>AZ (List.all_eq_true.1 h o (Array.mem_toList_iff.2 ho))
 | seq a b iha ihb=>intro h;have h':(lN P L a&&lN P L b)=true:=h;rw [Bool.and_eq_true] at h';exact ⟨iha h'.1,ihb h'.2⟩
 | cond c a b iha ihb=>intro h;have h':(jR P L c&&lN P L a&&lN P L b)=true:=h;rw [Bool.and_eq_true,Bool.and_eq_true] at h';exact ⟨uq h'.1.1,iha h'.1.2,ihb h'.2⟩
 | block id a ih=>exact ih
 | loop a ih=>exact ih
 | scope a ih=>exact ih
 | rangeFunc g ps a b iha ihb=>intro h;have h':(jR P L g&&lN P L a&&lN P L b)=true:=h;rw [Bool.and_eq_true,Bool.and_eq_true] at h';exact ⟨uq h'.1.1,iha h'.1.2,ihb h'.2⟩
 | _=>exact fun _=>trivial
@[reducible] def aK (P:Program) (L N:List FuncId):gm:=⟨fun o=>gB P L o=false,(· ∈ N)⟩
theorem Yk {N:List FuncId} (o:Oper):@V7 (aK P L N) P (· ∈ L) o:=by
 cases h:gB P L o with
 | true=>exact .inl (AZ h)
 | false=>exact .inr h
theorem Fb {N:List FuncId} {fr:Frame} (h:∀ ops i rest k o,fr.todo = .inRegion ops (i::rest)::k→ops[i]? = some o→gB P L o=true):@uu (aK P L N) fr:=fun _ ops i rest k o h1 h2 hsp=>by
 have h3:=h ops i rest k o h1 h2
 have h4:gB P L o=false:=hsp
 rw [h3] at h4;cases h4
theorem BZ {N:List FuncId}:∀ {c:Code},jF P L c=true→@lS (aK P L N) P (· ∈ L) c:=by
 intro c
 induction c with
 | region id ops d=>exact fun _ o _=>Yk o
 | seq a b iha ihb=>intro h;have h':(jF P L a&&jF P L b)=true:=h;rw [Bool.and_eq_true] at h';exact ⟨iha h'.1,ihb h'.2⟩
 | cond c a b iha ihb=>intro h;have h':(jR P L c&&jF P L a&&jF P L b)=true:=h;rw [Bool.and_eq_true,Bool.and_eq_true] at h';exact ⟨uq h'.1.1,iha h'.1.2,ihb h'.2⟩
 | block id a ih=>exact ih
 | loop a ih=>exact ih
 | scope a ih=>exact ih
 | rangeFunc g ps a b iha ihb=>intro h;have h':(jR P L g&&lN P L a&&lN P L b)=true:=h;rw [Bool.and_eq_true,Bool.and_eq_true] at h';exact ⟨uq h'.1.1,Gt h'.1.2,Gt h'.2⟩
 | _=>exact fun _=>trivial
theorem Yl [Fr] (hf:∀ g,g∈L→Fr.qL g=g) (h:bAll P L=true):kU P (· ∈ L):=by
 refine ⟨hf,fun g hg=>?_⟩
 have hg':=List.all_eq_true.1 h g hg
 unfold YR at hg'
 split at hg'
 ·next fn hfn=>
  split at hg'
  ·next body hb=>
   rw [Bool.and_eq_true] at hg'
   exact ⟨fn,body,by rw [←hfn];simp,hb,by simpa using hg'.1,Gt hg'.2⟩
  ·cases hg'
 ·cases hg'
end
end Ren
end Go
end
end
section
namespace Go
namespace Ren
abbrev zB:Value→Bool:=aQ
theorem Ko {z:Value} (h:zB z=true):∀ c∈z.cells,aQ c=true:=Hr h
def zI (i:TypeInfo):Prop:=∀ z,i.zero=some z→zB z=true
theorem xC {d:TypeDesc} {s:String} {z:Value} {c:Bool} {b:Nat} (h:flat z=true):zI (Made.word d s z c b):=fun z' hz=>by
 obtain rfl:z=z':=Option.some.inj hz
 exact JJ h
theorem Io {α β:Type} (Inv:β→Prop) (g:α→β→Option (ForInStep β)):∀ (l:List α),(∀ a∈l,∀ x s,Inv x→g a x=some s→Inv (match s with | .done y=>y | .yield y=>y)) →
  ∀ x y,Inv x→forIn l x g=some y→Inv y
 | [],_,x,y,hx,h=>by simp only [List.forIn_nil] at h;obtain rfl:x=y:=Option.some.inj h;exact hx
 | a::l,hg,x,y,hx,h=>by
  simp only [List.forIn_cons] at h
  cases hs:g a x with
  | none=>rw [hs] at h;cases h
  | some s=>
   rw [hs] at h
   have h1:=hg a (List.mem_cons_self ..) x s hx hs
   cases s with
   | done y'=>obtain rfl:y'=y:=Option.some.inj h;exact h1
   | yield y'=>exact Io Inv g l (fun b hb=>hg b (List.mem_cons_of_mem _ hb)) y' y h1 h
def zC (a:Option (Array Value)):Prop:=∀ cs,a=some cs→∀ c∈cs,aQ c=true
theorem PG {p:Prop} [Decidable p] {a:Option (Array Value)} {i:TypeInfo} (ha:zC a) (hi:zI i):zC (if p then none else a.bind fun x=>i.zero.bind fun y=>some (x++y.cells)):=fun cs h c hc=>by
 split at h
 ·cases h
 ·rw [Option.bind_eq_some_iff] at h
  obtain ⟨x,h1,h2⟩:=h
  rw [Option.bind_eq_some_iff] at h2
  obtain ⟨y,h3,h4⟩:=h2
  obtain rfl:=Option.some.inj h4
  rcases Array.mem_append.1 hc with h5 | h5
  ·exact ha x h1 c h5
  ·exact Ko (hi y h3) c h5
theorem Wy:zC none:=fun _ h=>by cases h
theorem WA {a:Option (Array Value)} {i:TypeInfo} (ha:zC a) (hi:zI i):zC (a.bind fun x=>i.zero.bind fun y=>some (x++y.cells)):=by
 have h:=PG (p:=False) ha hi
 rwa [if_neg id] at h
theorem YZ {a:Option (Array Value)} (ha:zC a) {z:Value} (h:a.map Value.agg=some z):zB z=true:=by
 cases a with
 | none=>cases h
 | some cs=>
  obtain rfl:Value.agg cs=z:=Option.some.inj h
  exact xk fun c hc=>ha cs rfl c hc
theorem QE {info:TypeId→Option TypeInfo} (hi:∀ t i,info t=some i→zI i) {fs:Array Field} {i:TypeInfo} (h:Made.reckonStruct info fs=some i):zI i:=by
 unfold Made.reckonStruct at h
 simp only [Option.bind_eq_bind,Option.pure_def] at h
 rw [Option.bind_eq_some_iff] at h
 obtain ⟨r,h1,h2⟩:=h
 have hr:zC r.2.2.2.2.2.2.2.1:=by
  rw [←Array.forIn_toList] at h1
  refine Io (fun r=>zC r.2.2.2.2.2.2.2.1) _ fs.toList ?_ _ _ ?_ h1
  ·intro f _ x s hx hs
   rw [Option.bind_eq_some_iff] at hs
   obtain ⟨i',h3,h4⟩:=hs
   have hz:=hi _ _ h3
   repeat' split at h4
   all_goals first
    | (cases h4;done)
    | (rw [Option.bind_eq_some_iff] at h4
       obtain ⟨tag,_,h5⟩:=h4
       repeat' split at h5
       all_goals (obtain rfl:=Option.some.inj h5;first | exact PG hx hz | exact Wy | exact WA hx hz))
    | skip
  ·intro cs h c hc
   obtain rfl:=Option.some.inj h
   simp at hc
 intro z hz
 split at h2<;>(obtain rfl:=Option.some.inj h2;exact YZ hr hz)
theorem QF {info:TypeId→Option TypeInfo} (hi:∀ t i,info t=some i→zI i) {d:TypeDesc} {i:TypeInfo} (h:Made.reckon info d=some i):zI i:=by
 unfold Made.reckon at h
 cases d<;>dsimp only at h<;>first | (cases h;done) | skip
 case struct fs=>exact QE hi h
 case array n e=>
  simp only [Option.bind_eq_bind,Option.pure_def,Option.bind_eq_some_iff] at h
  obtain ⟨i',h1,s,_,h3⟩:=h
  obtain rfl:=Option.some.inj h3
  intro z hz
  dsimp only at hz
  split at hz
  ·cases hz
  ·split at hz
   ·obtain rfl:=Option.some.inj hz;exact xk fun c hc=>by simp at hc
   ·cases hz':i'.zero with
    | none=>rw [hz'] at hz;cases hz
    | some z'=>
     rw [hz'] at hz
     obtain rfl:=Option.some.inj hz
     refine xk fun c hc=>?_
     rw [Array.mem_flatten] at hc
     obtain ⟨a,ha,hca⟩:=hc
     obtain rfl:=(Array.mem_replicate.1 ha).2
     exact Ko (hi _ _ h1 z' hz') c hca
 all_goals
  simp only [Option.bind_eq_bind,Option.pure_def,Option.bind_eq_some_iff] at h
 case slice e=>obtain ⟨_,_,_,_,h⟩:=h;obtain rfl:=Option.some.inj h;exact xC rfl
 case map k e=>obtain ⟨_,_,_,_,_,_,_,_,h⟩:=h;obtain rfl:=Option.some.inj h;exact xC rfl
 case chan d e=>obtain ⟨_,_,_,_,h⟩:=h;obtain rfl:=Option.some.inj h;exact xC rfl
 case func ps rs v=>obtain ⟨_,_,h⟩:=h;obtain rfl:=Option.some.inj h;exact xC rfl
 case pointer e=>
  obtain ⟨i',_,h⟩:=h
  split at h
  ·cases h
  ·split at h
   ·cases h
   ·rw [Option.bind_eq_some_iff] at h;obtain ⟨_,_,h⟩:=h;obtain rfl:=Option.some.inj h;exact xC rfl
  ·rw [Option.bind_eq_some_iff] at h;obtain ⟨_,_,h⟩:=h;obtain rfl:=Option.some.inj h;exact xC rfl
theorem Hz {T:Tables} (hb:∀ (t:Nat) (i:TypeInfo),T.types[t]? = some i→zI i):∀ (n:Nat) (t:TypeId) (i:TypeInfo),Made.infoAt T n t=some i→zI i
 | 0,_,_,h=>by cases h
 | n+1,t,i,h=>by
  unfold Made.infoAt at h
  split at h
  ·exact hb t i h
  ·rw [Option.bind_eq_some_iff] at h
   obtain ⟨d,_,h⟩:=h
   exact QF (fun t i h=>Hz hb n t i h) h
def bZero (P:Program):Bool:=P.types.toList.all fun i=>match i.zero with
 | some z=>zB z
 | none=>true
theorem VS {P:Program} (h:bZero P=true):aN P:=by
 have hb:∀ (t:Nat) (i:TypeInfo),P.types[t]? = some i→zI i:=fun t i hi z hz=>by
  have:=List.all_eq_true.1 h i (Array.mem_toList_iff.2 (Array.mem_of_getElem? hi))
  rw [hz] at this
  exact this
 intro t i z hi hz
 have hi':Tables.info? P.toTables t=some i:=hi
 unfold Tables.info? at hi'
 split at hi'
 ·exact (hb t i hi' z hz)
 ·exact (Hz hb _ t i hi' z hz)
end Ren
end Go
end
