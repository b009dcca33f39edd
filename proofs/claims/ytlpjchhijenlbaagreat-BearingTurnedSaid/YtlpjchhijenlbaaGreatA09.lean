/- Of the proof of BearingTurned: Ev18 Ev19 Ev20 Ev21 Ev22 Ev23 Ev24 Ev25 Bst1 -/
import Derived.Orders
import Derived.Test.YtlpjchhijenlbaaGreatA08
set_option linter.unusedSectionVars false
set_option linter.unusedVariables false
set_option linter.unusedSimpArgs false
section
section
namespace Go
namespace Ev
variable {P:Program} {inv:Iv}
theorem JA (h1:H):∀ (l:List Nat) (t:T Ob) (b:Nat),(∀ c∈l,c<top)→(lay h1 l t).get b=if b∈l then h1.get b else t.get b
 | [],t,b,_=>by simp [lay]
 | c::l,t,b,hl=>by
  rw [lay,T.get_put _ _ _ _ _ (aO (hl c (by simp))),JA h1 l t b fun c hc=>hl c (by simp [hc])]
  by_cases e:b=c
  ·subst e;simp
  ·simp [e]
def touches (b:Nat) (r:Rec):Bool:=r.h1.log.contains b
theorem vZ {b:Nat} {r:Rec}:touches b r=true↔b∈r.h1.log:=by simp [touches]
theorem qC (t:T Ob) (b:Nat):∀ (rs:List Rec),(∀ r∈rs,∀ c∈r.h1.log,c<top)→(layAll t rs).get b=match rs.find? (touches b) with | some r=>r.h1.get b | none=>t.get b
 | [],_=>rfl
 | r::rs,hl=>by
  rw [layAll,JA _ _ _ _ (hl r (by simp)),qC t b rs fun s hs=>hl s (by simp [hs]),List.find?_cons]
  by_cases e:b∈r.h1.log
  ·rw [if_pos e,vZ.2 e]
  ·have:touches b r=false:=by simpa [touches] using e
   rw [if_neg e,this]
theorem IP (ops:List Oper) (i:Nat) (t:T Ob):∀ rs:List Rec,behind ops i t rs=layAll t (rs.filter fun r=>nO ops ops.length r.i i)
 | []=>rfl
 | r::rs=>by
  rw [behind,IP ops i t rs,List.filter_cons]
  cases nO ops ops.length r.i i<;>rfl
theorem yY {α:Type} {p:α→Bool} {R:α→α→Prop}:∀ {l:List α} {r:α},l.Pairwise R→l.find? p=some r→∀ s∈l,p s=true→s=r∨R r s
 | [],r,_,h,s,hs,_=>by cases hs
 | a::l,r,hp,h,s,hs,hq=>by
  rw [List.find?_cons] at h
  cases ha:p a with
  | true=>
   rw [ha] at h
   cases h
   rcases List.mem_cons.1 hs with rfl | hs
   ·exact .inl rfl
   ·exact .inr ((List.pairwise_cons.1 hp).1 s hs)
  | false=>
   rw [ha] at h
   rcases List.mem_cons.1 hs with rfl | hs
   ·rw [ha] at hq;cases hq
   ·exact yY (List.pairwise_cons.1 hp).2 h s hs hq
theorem BQ {p:Rec→Bool} {pr:Nat→Nat→Bool} {l m:List Rec} (hl:l.Pairwise fun r s=>pr r.i s.i=false) (hm:m.Pairwise fun r s=>pr r.i s.i=false)
  (hs:∀ r,p r=true→(r∈l↔r∈m)) (ho:∀ r s,r∈l→s∈l→p r=true→p s=true→r=s∨pr r.i s.i=true∨pr s.i r.i=true):l.find? p=m.find? p:=by
 cases h1:l.find? p with
 | none=>
  symm
  rw [List.find?_eq_none] at h1 ⊢
  intro r hr hp
  exact h1 r ((hs r hp).2 hr) hp
 | some r=>
  have hpr:=List.find?_some h1
  have hrl:=List.mem_of_find?_eq_some h1
  have hrm:=(hs r hpr).1 hrl
  cases h2:m.find? p with
  | none=>rw [List.find?_eq_none] at h2;exact absurd hpr (h2 r hrm)
  | some s=>
   have hps:=List.find?_some h2
   have hsm:=List.mem_of_find?_eq_some h2
   have hsl:=(hs s hps).2 hsm
   rcases yY hl h1 s hsl hps with rfl | a1
   ·rfl
   ·rcases yY hm h2 r hrm hpr with rfl | a2
    ·rfl
    ·rcases ho r s hrl hsl hpr hps with rfl | h | h
     ·rfl
     ·rw [a1] at h;cases h
     ·rw [a2] at h;cases h
theorem Aa {ops:Array Oper} {X:Nat→Prop} (hX:∀ j,X j→∀ o,ops[j]? = some o→∀ e∈o.after,Region.binds .any e=true→X e.on):∀ (k j i:Nat),(∀ o,ops[i]? = some o→∀ e∈o.after,Region.binds .any e=true→X e.on)→nO ops.toList k j i=true→X j
 | 0,j,i,_,h=>by simp [nO] at h
 | k+1,j,i,hi,h=>by
  simp only [nO] at h
  rw [xY] at h
  split at h
  ·rename_i o ho
   rw [List.any_eq_true] at h
   obtain ⟨e,he,h⟩:=h
   have he':e∈o.after:=by simpa using he
   split at h
   ·rename_i hb
    have hx:=hi o ho e he' hb
    split at h
    ·rename_i hj;rw [←Nat.eq_of_beq_eq_true hj];exact hx
    ·exact Aa hX k j e.on (hX _ hx) h
   ·cases h
  ·cases h
theorem pred_lt {ops:Array Oper} (hlow:∀ i o,ops[i]? = some o→∀ e∈o.after,Region.binds .any e=true→e.on<i):∀ (k j i:Nat),nO ops.toList k j i=true→j<i
 | 0,j,i,h=>by simp [nO] at h
 | k+1,j,i,h=>by
  simp only [nO] at h
  rw [xY] at h
  split at h
  ·rename_i o ho
   rw [List.any_eq_true] at h
   obtain ⟨e,he,h⟩:=h
   have he':e∈o.after:=by simpa using he
   split at h
   ·rename_i hb
    have hlt:=hlow i o ho e he' hb
    split at h
    ·rename_i hj;have:=Nat.eq_of_beq_eq_true hj;omega
    ·have:=pred_lt hlow k j e.on h;omega
   ·cases h
  ·cases h
theorem wP {ops:List Oper} {i j:Nat}:Ry ops i j=true↔nO ops ops.length i j=true∨nO ops ops.length j i=true:=by
 unfold Ry
 cases nO ops ops.length i j<;>simp
end Ev
end Go
end
end
section
section
namespace Go
namespace Ev
variable {P:Program} {inv:Iv}
def Pz (P:Program) (inv:Iv) (ck:Ck) (n:Nat) (all:List Oper) (t0:T Ob) (i:Nat) (o:Oper) (t:T Value) (nx:Nat) (rs:List Rec) (t':T Value) (nx':Nat) (rs':List Rec):Prop:=
 ∃ v,jl t n o.dst v=some t'∧(
  (jH all (only t (iP all o)) o=some false∧ck.skip o=true∧v = .tuple #[]∧nx'=nx∧rs'=rs) ∨
  (jH all (only t (iP all o)) o=some true∧ck.go (only t (iP all o)) o=true∧qh o.op=true∧jQ P (aG (only t (iP all o))) o.op=some v∧nx'=nx∧rs'=rs) ∨
  (jH all (only t (iP all o)) o=some true∧ck.go (only t (iP all o)) o=true∧∃ h1,lT P inv (only t (iP all o)) ⟨narrow (only t (iP all o)) o.op (behind all i t0 rs),nx,[]⟩ o.op=some (v,h1)∧nx'=h1.next∧rs'=⟨i,⟨narrow (only t (iP all o)) o.op (behind all i t0 rs),nx,[]⟩,h1⟩::rs))
theorem Xe {ck:Ck} {n:Nat} {all:List Oper} {t0:T Ob} {o:Oper} {l:List Oper} {i:Nat} {t:T Value} {nx:Nat} {rs:List Rec} {x:T Value × Nat × List Rec} (e:jY P inv ck n all t0 (o::l) i t nx rs=some x) :
  ∃ t' nx' rs',Pz P inv ck n all t0 i o t nx rs t' nx' rs'∧jY P inv ck n all t0 l (i+1) t' nx' rs'=some x:=by
 simp only [jY] at e
 split at e
 ·rename_i hw
  split at e
  case h_2=>cases e
  rename_i hck
  split at e
  ·rename_i hpb
   split at e
   ·rename_i v hv
    split at e
    ·rename_i t' ht;exact ⟨t',nx,rs,⟨v,ht,.inr (.inl ⟨hw,hck,hpb,hv,rfl,rfl⟩)⟩,e⟩
    ·cases e
   ·cases e
  ·split at e
   ·rename_i v h1 hv
    split at e
    ·rename_i t' ht;exact ⟨t',_,_,⟨v,ht,.inr (.inr ⟨hw,hck,h1,hv,rfl,rfl⟩)⟩,e⟩
    ·cases e
   ·cases e
 ·rename_i hw
  split at e
  case h_2=>cases e
  rename_i hck
  split at e
  ·rename_i t' ht;exact ⟨t',nx,rs,⟨_,ht,.inl ⟨hw,hck,rfl,rfl,rfl⟩⟩,e⟩
  ·cases e
 ·cases e
theorem Bo {ck:Ck} {n:Nat} {all:List Oper} {t0:T Ob}:∀ {l:List Oper} {i:Nat} {t:T Value} {nx:Nat} {rs:List Rec} {t':T Value} {nx':Nat} {rs':List Rec},jY P inv ck n all t0 l i t nx rs=some (t',nx',rs') →
  ∃ (TT:Nat→T Value) (NX:Nat→Nat) (RS:Nat→List Rec),TT i=t∧NX i=nx∧RS i=rs∧TT (i+l.length)=t'∧NX (i+l.length)=nx'∧RS (i+l.length)=rs' ∧
   ∀ j o,l[j]? = some o→Pz P inv ck n all t0 (i+j) o (TT (i+j)) (NX (i+j)) (RS (i+j)) (TT (i+j+1)) (NX (i+j+1)) (RS (i+j+1))
 | [],i,t,nx,rs,t',nx',rs',e=>by
  cases e
  exact ⟨fun _=>t,fun _=>nx,fun _=>rs,rfl,rfl,rfl,rfl,rfl,rfl,fun j o h=>by simp at h⟩
 | o::l,i,t,nx,rs,t',nx',rs',e=>by
  obtain ⟨t1,nx1,rs1,hs,e1⟩:=Xe e
  obtain ⟨TT,NX,RS,a1,a2,a3,a4,a5,a6,a7⟩:=Bo e1
  have el:i+(o::l).length=i+1+l.length:=by simp;omega
  have far:∀ {α:Type} (x:α) (f:Nat→α) (j:Nat),i<j→(if j≤i then x else f j)=f j:=fun x f j hj=>by rw [if_neg (by omega)]
  refine ⟨fun j=>if j≤i then t else TT j,fun j=>if j≤i then nx else NX j,fun j=>if j≤i then rs else RS j,by simp,by simp,by simp,?_,?_,?_,fun j o' hj=>?_⟩
  ·rw [el];simp only;rw [far _ _ _ (by omega)];exact a4
  ·rw [el];simp only;rw [far _ _ _ (by omega)];exact a5
  ·rw [el];simp only;rw [far _ _ _ (by omega)];exact a6
  ·cases j with
   | zero=>
    cases hj
    simp only [Nat.add_zero]
    rw [far t TT (i+1) (by omega),far nx NX (i+1) (by omega),far rs RS (i+1) (by omega),if_pos (Nat.le_refl i),if_pos (Nat.le_refl i),if_pos (Nat.le_refl i),a1,a2,a3]
    exact hs
   | succ j=>
    have:=a7 j o' (by simpa using hj)
    have e2:i+(j+1)=i+1+j:=by omega
    rw [e2]
    simp only
    rw [far t TT (i+1+j) (by omega),far nx NX (i+1+j) (by omega),far rs RS (i+1+j) (by omega),far t TT (i+1+j+1) (by omega),far nx NX (i+1+j+1) (by omega),far rs RS (i+1+j+1) (by omega)]
    exact this
structure Trace (P:Program) (inv:Iv) (ck:Ck) (n:Nat) (ops:Array Oper) (t0:T Ob) (TT:Nat→T Value) (NX:Nat→Nat) (RS:Nat→List Rec):Prop where
 step:∀ j o,ops[j]? = some o→Pz P inv ck n ops.toList t0 j o (TT j) (NX j) (RS j) (TT (j+1)) (NX (j+1)) (RS (j+1))
 first:RS 0=[]
variable {ck:Ck} {n:Nat} {ops:Array Oper} {t0:T Ob} {TT:Nat→T Value} {NX:Nat→Nat} {RS:Nat→List Rec}
theorem Trace.next (hT:Trace P inv ck n ops t0 TT NX RS) (hI:lQ inv) {j:Nat} (hj:j<ops.size):NX j≤NX (j+1):=by
 obtain ⟨v,_,h | h | h⟩:=hT.step j _ (Array.getElem?_eq_getElem hj)
 ·rw [h.2.2.2.1];exact Nat.le_refl _
 ·rw [h.2.2.2.2.1];exact Nat.le_refl _
 ·obtain ⟨_,_,h1,e,e2,_⟩:=h
  rw [e2];exact qo hI e
theorem Trace.jL (hT:Trace P inv ck n ops t0 TT NX RS) (hI:lQ inv) {j:Nat}:∀ {k:Nat},j≤k→k≤ops.size→NX j≤NX k
 | 0,h1,_=>by obtain rfl:j=0:=by omega
              exact Nat.le_refl _
 | k+1,h1,h2=>by
  by_cases e:j=k+1
  ·subst e;exact Nat.le_refl _
  ·exact Nat.le_trans (hT.jL hI (by omega) (by omega)) (hT.next hI (by omega))
def V6 (ops:Array Oper) (t0:T Ob) (NX:Nat→Nat) (RS:Nat→List Rec) (r:Rec):Prop:=(∃ m,r.h0=⟨m,NX r.i,[]⟩∧Under m (behind ops.toList r.i t0 (RS r.i)))∧r.h1.next=NX (r.i+1)
theorem Trace.recs (hT:Trace P inv ck n ops t0 TT NX RS) {j:Nat} (hj:j<ops.size):RS (j+1)=RS j ∨ ∃ r,RS (j+1)=r::RS j∧r.i=j∧V6 ops t0 NX RS r:=by
 obtain ⟨v,_,h | h | h⟩:=hT.step j _ (Array.getElem?_eq_getElem hj)
 ·exact .inl h.2.2.2.2
 ·exact .inl h.2.2.2.2.2
 ·obtain ⟨_,_,h1,e,e2,e3⟩:=h
  exact .inr ⟨_,e3,rfl,⟨_,rfl,Jv _ _ _⟩,e2.symm⟩
theorem Trace.all (hT:Trace P inv ck n ops t0 TT NX RS):∀ {k:Nat},k≤ops.size→(∀ r∈RS k,r.i<k∧V6 ops t0 NX RS r)∧(RS k).Pairwise (fun r s=>s.i<r.i)
 | 0,_=>by rw [hT.first];exact ⟨fun r h=>by simp at h,.nil⟩
 | k+1,hk=>by
  obtain ⟨h1,h2⟩:=hT.all (k:=k) (by omega)
  rcases hT.recs (j:=k) (by omega) with e | ⟨r,e,q1,q2⟩
  ·rw [e];exact ⟨fun r hr=>⟨by have:=(h1 r hr).1;omega,(h1 r hr).2⟩,h2⟩
  ·rw [e]
   refine ⟨fun s hs=>?_,List.pairwise_cons.2 ⟨fun s hs=>by have:=(h1 s hs).1;omega,h2⟩⟩
   rcases List.mem_cons.1 hs with rfl | hs
   ·exact ⟨by omega,q2⟩
   ·exact ⟨by have:=(h1 s hs).1;omega,(h1 s hs).2⟩
theorem Trace.sub (hT:Trace P inv ck n ops t0 TT NX RS) {j:Nat}:∀ {k:Nat},j≤k→k≤ops.size→∀ r,r∈RS j↔(r∈RS k∧r.i<j)
 | 0,h1,h2,r=>by
  obtain rfl:j=0:=by omega
  rw [hT.first];simp
 | k+1,h1,h2,r=>by
  by_cases e:j=k+1
  ·subst e;exact ⟨fun h=>⟨h,((hT.all h2).1 r h).1⟩,fun h=>h.1⟩
  ·rw [hT.sub (k:=k) (by omega) (by omega) r]
   rcases hT.recs (j:=k) (by omega) with e1 | ⟨s,e1,q1,_⟩
   ·rw [e1]
   ·rw [e1]
    constructor
    ·rintro ⟨a,b⟩;exact ⟨List.mem_cons_of_mem _ a,b⟩
    ·rintro ⟨a,b⟩
     rcases List.mem_cons.1 a with rfl | a
     ·omega
     ·exact ⟨a,b⟩
end Ev
end Go
end
end
section
section
namespace Go
namespace Ev
variable {P:Program} {inv:Iv}
theorem zu:∀ {n i:Nat},i<n→i∈upto n
 | n+1,i,h=>by
  rw [upto,List.mem_append]
  by_cases e:i=n
  ·exact .inr (by simp [e])
  ·exact .inl (zu (by omega))
theorem y9 {ops:Array Oper} (h:Gf ops.toList=true) {i:Nat} {o:Oper} (ho:ops[i]? = some o):∀ e∈o.after,Region.binds .any e=true→e.on<i:=fun e he hb=>by
 have hi:i<ops.toList.length:=by have:=(Array.getElem?_eq_some_iff.1 ho).1;simpa using this
 have h1:=List.all_eq_true.1 h i (zu hi)
 rw [xY,ho] at h1
 simp only [Bool.and_eq_true] at h1
 have h2:=List.all_eq_true.1 h1.1 e (by simpa using he)
 rw [hb] at h2
 simpa [Nat.blt_eq] using h2
theorem F9 {ops:Array Oper} (h:Gf ops.toList=true) {i j:Nat} {oi oj:Oper} {d:Nat} (hi:ops[i]? = some oi) (hd:oi.dst=some d) (hij:i≠j) (hj:ops[j]? = some oj)
  (hr:oj.dst=some d∨d∈iP ops.toList oj):Ry ops.toList i j=true:=by
 have hil:i<ops.toList.length:=by have:=(Array.getElem?_eq_some_iff.1 hi).1;simpa using this
 have hjl:j<ops.toList.length:=by have:=(Array.getElem?_eq_some_iff.1 hj).1;simpa using this
 have h1:=List.all_eq_true.1 h i (zu hil)
 rw [xY,hi] at h1
 simp only [Bool.and_eq_true,hd] at h1
 have h2:=List.all_eq_true.1 h1.2 j (zu hjl)
 have hb:Nat.beq i j=false:=by
  cases hb:Nat.beq i j
  ·rfl
  ·exact absurd (Nat.eq_of_beq_eq_true hb) hij
 rw [hb,xY,hj] at h2
 simp only at h2
 split at h2
 ·rename_i e1 e2
  rcases hr with hr | hr
  ·rw [hr] at e1;simp at e1
  ·exfalso
   have:(iP ops.toList oj).any (fun d'=>Nat.beq d' d)=true:=List.any_eq_true.2 ⟨d,hr,by simp⟩
   rw [this] at e2;cases e2
 ·exact h2
theorem rC {h:H}:∀ {l:List Nat},untouched h l=true→∀ b∈l,h.get b=none
 | c::l,e,b,hb=>by
  simp only [untouched] at e
  split at e
  ·rename_i hn
   rcases List.mem_cons.1 hb with rfl | hb
   ·exact hn
   ·exact rC e b hb
  ·cases e
def Apart (ops:List Oper) (r s:Rec):Prop:=Ry ops r.i s.i=true∨((∀ b∈s.h1.log,r.h0.get b=none)∧∀ b∈r.h1.log,s.h0.get b=none)
theorem Apart.symm {ops:List Oper} {r s:Rec} (h:Apart ops r s):Apart ops s r:=h.imp (fun e=>by rw [wP] at e ⊢;exact e.symm) And.symm
theorem yl {ops:List Oper} {r:Rec}:∀ {rs:List Rec},apartB ops r rs=true→∀ s∈rs,Apart ops r s
 | t::rs,e,s,hs=>by
  simp only [apartB] at e
  split at e
  ·rename_i ho
   rcases List.mem_cons.1 hs with rfl | hs
   ·exact .inl ho
   ·exact yl e s hs
  ·split at e
   ·rename_i h1 h2
    rcases List.mem_cons.1 hs with rfl | hs
    ·exact .inr ⟨rC h1,rC h2⟩
    ·exact yl e s hs
   ·cases e
theorem xy {ops:List Oper}:∀ {rs:List Rec},xB ops rs=true→∀ r∈rs,∀ s∈rs,r=s∨Apart ops r s
 | t::rs,e,r,hr,s,hs=>by
  simp only [xB] at e
  split at e
  ·rename_i h1
   rcases List.mem_cons.1 hr with rfl | hr2<;>rcases List.mem_cons.1 hs with rfl | hs2
   ·exact .inl rfl
   ·exact .inr (yl h1 s hs2)
   ·exact .inr (yl h1 r hr2).symm
   ·exact xy e r hr2 s hs2
  ·cases e
theorem Ah {r:Rec} (h:UO r=true):∀ b∈r.h1.log,b<top∧((r.h0.get b).isSome=true∨(r.h0.next≤b∧b<r.h1.next)):=fun b hb=>by
 have h1:=List.all_eq_true.1 h b hb
 split at h1
 ·rename_i ht
  refine ⟨by rwa [Nat.blt_eq] at ht,?_⟩
  split at h1
  ·rename_i hg;exact .inl (by rw [hg];rfl)
  ·split at h1
   ·rename_i hl;exact .inr ⟨Nat.le_of_ble_eq_true hl,by rwa [Nat.blt_eq] at h1⟩
   ·cases h1
 ·cases h1
theorem EY {t:T Value}:∀ {l:List Nat} {d:Nat} {v:Value},(only t l).get d=some v→d∈l∧t.get d=some v
 | [],d,v,h=>by simp [only,T.get] at h
 | c::l,d,v,h=>by
  simp only [only] at h
  split at h
  ·rename_i hc
   rw [Nat.blt_eq] at hc
   rw [T.get_put _ _ _ _ _ (aO hc)] at h
   split at h
   ·rename_i e;subst e;exact ⟨by simp,h⟩
   ·obtain ⟨a,b⟩:=EY h;exact ⟨by simp [a],b⟩
  ·obtain ⟨a,b⟩:=EY h;exact ⟨by simp [a],b⟩
theorem TU {t t':T Value} {n:Nat} {d:Option Tmp} {v:Value} (e:jl t n d v=some t') (c:Nat) (hc:d≠some c):t'.get c=t.get c:=by
 cases d with
 | none=>simp only [jl] at e;cases e;rfl
 | some d=>
  simp only [jl] at e
  split at e
  ·rename_i h1 h2
   cases e
   rw [Nat.blt_eq] at h2
   rw [T.get_put _ _ _ _ _ (aO h2),if_neg (fun e=>hc (by rw [e]))]
  ·cases e
theorem QW {t t':T Value} {n d:Nat} {v:Value} (e:jl t n (some d) v=some t'):t'.get d=some v∧d<n:=by
 simp only [jl] at e
 split at e
 ·rename_i h1 h2
  cases e
  rw [Nat.blt_eq] at h1 h2
  rw [T.get_put _ _ _ _ _ (aO h2),if_pos rfl]
  exact ⟨rfl,h1⟩
 ·cases e
structure Far (ρ:aY) (h:H) (w:World) (ρ':aY) (h':H) (w':World) (N:Nat→Prop):Prop where
 le:Le ρ ρ'
 born:∀ b,ρ b = .aT→¬ N b→ρ' b = .aT
 size:w.heap.size≤w'.heap.size
 log:∃ l,h'.log=l++h.log ∧
  (∀ x o,w.heap[x]? = some o→(∀ b k,b∈l→ρ b ≠ .at_ x k)→w'.heap[x]? = some o) ∧
  (∀ b x k,ρ' b = .at_ x k→ρ b = .at_ x k∨(ρ b = .aT∧(w.heap.size≤x ∨ ∃ c m,c∈l∧ρ c = .at_ x m))) ∧
  (∀ b,b∈l→(h.get b).isSome=true∨N b) ∧
  (∀ b,b∉l→h'.get b=h.get b) ∧
  (∀ b,b∉l→ρ b ≠ .aT→ρ' b=ρ b)
theorem Far.refl (ρ:aY) (h:H) (w w':World) (e:w'.heap=w.heap) (N:Nat→Prop):Far ρ h w ρ h w' N:=
 ⟨.refl ρ,fun _ h _=>h,by rw [e];exact Nat.le_refl _,[],rfl,fun x o hx _=>by rw [e];exact hx,fun _ _ _ h=>.inl h,fun _ h=>by simp at h,fun _ _=>rfl,fun _ _ _=>rfl⟩
theorem Far.trans {ρ ρ1 ρ2:aY} {h h1 h2:H} {w w1 w2:World} {N:Nat→Prop} (a:Far ρ h w ρ1 h1 w1 N) (b:Far ρ1 h1 w1 ρ2 h2 w2 N):Far ρ h w ρ2 h2 w2 N:=by
 obtain ⟨l1,e1,f1,o1,t1,s1,k1⟩:=a.log
 obtain ⟨l2,e2,f2,o2,t2,s2,k2⟩:=b.log
 refine ⟨a.le.trans b.le,fun x hu hr=>b.born x (a.born x hu hr) hr,Nat.le_trans a.size b.size,l2++l1,by rw [e2,e1,List.append_assoc],fun x o hx hn=>?_,fun y x k hy=>?_,fun y hy=>?_,fun y hy=>?_,fun y hy hu=>?_⟩
 ·refine f2 x o (f1 x o hx fun y k hy=>hn y k (by simp [hy])) fun y k hy e=>?_
  rcases o1 y x k e with h | ⟨_,h | ⟨c,m,hc,hm⟩⟩
  ·exact hn y k (by simp [hy]) h
  ·have:=(Array.getElem?_eq_some_iff.1 hx).1;omega
  ·exact hn c m (by simp [hc]) hm
 ·rcases o2 y x k hy with h | ⟨hu,h⟩
  ·rcases o1 y x k h with h | ⟨hu,h | ⟨c,m,hc,hm⟩⟩
   ·exact .inl h
   ·exact .inr ⟨hu,.inl h⟩
   ·exact .inr ⟨hu,.inr ⟨c,m,by simp [hc],hm⟩⟩
  ·have hu0:ρ y = .aT:=by
    rcases a.le y with h | h | h
    ·exact h
    ·rw [←h];exact hu
    ·rw [h] at hu;cases hu
   refine .inr ⟨hu0,?_⟩
   rcases h with h | ⟨c,m,hc,hm⟩
   ·exact .inl (Nat.le_trans a.size h)
   ·rcases o1 c x m hm with h | ⟨_,h | ⟨d,m',hd,hm'⟩⟩
    ·exact .inr ⟨c,m,by simp [hc],h⟩
    ·exact .inl h
    ·exact .inr ⟨d,m',by simp [hd],hm'⟩
 ·rcases List.mem_append.1 hy with hy | hy
  ·rcases t2 y hy with h | h
   ·by_cases hm:y∈l1
    ·exact t1 y hm
    ·rw [s1 y hm] at h;exact .inl h
   ·exact .inr h
  ·exact t1 y hy
 ·rw [s2 y (fun h=>hy (by simp [h])),s1 y (fun h=>hy (by simp [h]))]
 ·have h1:=k1 y (fun h=>hy (by simp [h])) hu
  rw [k2 y (fun h=>hy (by simp [h])) (by rw [h1];exact hu),h1]
end Ev
end Go
end
end
section
section
namespace Go
namespace Ev
variable {P:Program} {inv:Iv}
theorem OT {ρ ρ':aY} {HE HE' h0 h1:H} {w w':World} {N:Nat→Prop} (hr:HR ρ HE w) (hk:∀ b o,h0.get b=some o→HE.get b=some o) (hlog:h0.log=[])
  (hok:∀ b∈h1.log,b<top∧((h0.get b).isSome=true∨(h0.next≤b∧b<h1.next))) (s:Stp ρ h0 w ρ' h1 w') (hr':HR ρ' h1 w') (hu:gK ρ h0.next h1.next)
  (hg:∀ b,HE'.get b=if b∈h1.log then h1.get b else HE.get b) (hl:HE'.log=h1.log++HE.log) (hN:∀ b,h0.next≤b→b<h1.next→N b):Far ρ HE w ρ' HE' w' N∧HR ρ' HE' w':=by
 obtain ⟨l,e1,f1,o1,t1,s1,k1⟩:=s.log
 rw [hlog,List.append_nil] at e1
 subst e1
 have known:∀ c∈h1.log,∀ x k,ρ c = .at_ x k→(HE.get c).isSome=true:=fun c hc x k hx=>by
  rcases (hok c hc).2 with h | ⟨h2,h3⟩
  ·obtain ⟨o,ho⟩:=Option.isSome_iff_exists.1 h
   rw [hk c o ho];rfl
  ·rw [hu c h2 h3] at hx;cases hx
 have clear:∀ b o x k,HE.get b=some o→b∉h1.log→ρ b = .at_ x k→∀ c m,c∈h1.log→ρ c ≠ .at_ x m:=fun b o x k hb hn hx c m hc hc'=>by
  have:=hr.inj b c x k m (by rw [hb];rfl) (known c hc x m hc') hx hc'
  subst this;exact hn hc
 have keep:∀ b o,HE.get b=some o→b∉h1.log→ρ' b=ρ b:=fun b o hb hn=>by
  obtain ⟨x,k,o',h2,_⟩:=hr.ob b o hb
  exact k1 b hn (by rw [h2];exact fun h=>by cases h)
 refine ⟨⟨s.le,fun b hb hn=>s.born b hb ?_,s.size,h1.log,hl,f1,o1,fun b hb=>?_,fun b hb=>?_,k1⟩,hr'.dH,fun b o hb=>?_,fun b c x k m hb hc hx hy=>?_⟩
 ·by_cases h2:h0.next≤b
  ·by_cases h3:b<h1.next
   ·exact absurd (hN b h2 h3) hn
   ·exact .inr (by omega)
  ·exact .inl (by omega)
 ·rcases (hok b hb).2 with h | ⟨h2,h3⟩
  ·obtain ⟨o,ho⟩:=Option.isSome_iff_exists.1 h
   exact .inl (by rw [hk b o ho];rfl)
  ·exact .inr (hN b h2 h3)
 ·rw [hg,if_neg hb]
 ·rw [hg] at hb
  split at hb
  ·exact hr'.ob b o hb
  ·rename_i hn
   obtain ⟨x,k,o',h2,h3,h4⟩:=hr.ob b o hb
   exact ⟨x,k,o',by rw [keep b o hb hn];exact h2,f1 x o' h3 fun c m hc=>clear b o x k hb hn h2 c m hc,h4.mono s.le⟩
 ·have mixed:∀ b c x k m,b∈h1.log→c∉h1.log→(HE.get c).isSome=true→ρ' b = .at_ x k→ρ' c = .at_ x m→False:=fun b c x k m hb hc hcs hx hy=>by
   obtain ⟨oc,hoc⟩:=Option.isSome_iff_exists.1 hcs
   rw [keep c oc hoc hc] at hy
   rcases o1 b x k hx with h | ⟨hu,h | ⟨d,m',hd,hm⟩⟩
   ·exact clear c oc x m hoc hc hy b k hb h
   ·have:=hr.lt hoc hy;omega
   ·exact clear c oc x m hoc hc hy d m' hd hm
  rw [hg] at hb hc
  split at hb<;>split at hc
  ·exact hr'.inj b c x k m hb hc hx hy
  ·exact (mixed b c x k m ‹_› ‹_› hc hx hy).elim
  ·exact (mixed c b x m k ‹_› ‹_› hb hy hx).elim
  ·rename_i h2 h3
   obtain ⟨ob,hob⟩:=Option.isSome_iff_exists.1 hb
   obtain ⟨oc,hoc⟩:=Option.isSome_iff_exists.1 hc
   rw [keep b ob hob h2] at hx
   rw [keep c oc hoc h3] at hy
   exact hr.inj b c x k m hb hc hx hy
structure Fine (P:Program) (inv:Iv) (ck:Ck) (n:Nat) (ops:Array Oper) (h:H) (TT:Nat→T Value) (NX:Nat→Nat) (RS:Nat→List Rec):Prop where
 hI:lQ inv
 tr:Trace P inv ck n ops h.t TT NX RS
 draw:Gf ops.toList=true
 apart:∀ r∈RS ops.size,∀ s∈RS ops.size,r=s∨Apart ops.toList r s
 logs:∀ r∈RS ops.size,UO r=true
 nx0:NX 0=h.next
variable {ck:Ck} {n:Nat} {ops:Array Oper} {h:H} {TT:Nat→T Value} {NX:Nat→Nat} {RS:Nat→List Rec}
abbrev Np (ops:Array Oper) (i j:Nat):Bool:=nO ops.toList ops.toList.length i j
theorem Fine.lt (hF:Fine P inv ck n ops h TT NX RS) {i j:Nat} (e:Np ops i j=true):i<j:=pred_lt (fun i o ho=>y9 hF.draw ho) _ _ _ e
theorem Fine.Je (hF:Fine P inv ck n ops h TT NX RS) {r:Rec} (hr:r∈RS ops.size):r.i<ops.size∧V6 ops h.t NX RS r:=(hF.tr.all (Nat.le_refl _)).1 r hr
theorem Fine.TF (hF:Fine P inv ck n ops h TT NX RS) {r:Rec} (hr:r∈RS ops.size):∀ c∈r.h1.log,c<top:=fun c hc=>(Ah (hF.logs r hr) c hc).1
theorem Xu {α:Type} {R:α→α→Prop} {l:List α} (h:l.Pairwise R):∀ a∈l,∀ b∈l,a=b∨R a b∨R b a:=by
 induction h with
 | nil=>intro a ha;cases ha
 | cons h1 _ ih=>
  intro a ha b hb
  rcases List.mem_cons.1 ha with rfl | ha2<;>rcases List.mem_cons.1 hb with rfl | hb2
  ·exact .inl rfl
  ·exact .inr (.inl (h1 b hb2))
  ·exact .inr (.inr (h1 a ha2))
  ·exact ih a ha2 b hb2
theorem Fine.same (hF:Fine P inv ck n ops h TT NX RS) {r s:Rec} (hr:r∈RS ops.size) (hs:s∈RS ops.size) (e:r.i=s.i):r=s:=by
 rcases Xu (hF.tr.all (Nat.le_refl _)).2 r hr s hs with h | h | h
 ·exact h
 ·omega
 ·omega
theorem Fine.both (hF:Fine P inv ck n ops h TT NX RS) {r s:Rec} (hr:r∈RS ops.size) (hs:s∈RS ops.size) {b:Nat} (h1:touches b r=true) (h2:touches b s=true):r=s∨Np ops r.i s.i=true∨Np ops s.i r.i=true:=by
 rcases hF.apart r hr s hs with e | e | ⟨e1,e2⟩
 ·exact .inl e
 ·exact .inr (wP.1 e)
 ·rw [vZ] at h1 h2
  rcases (Ah (hF.logs r hr) b h1).2 with k | ⟨k1,k2⟩
  ·rw [e1 b h2] at k;cases k
  ·rcases (Ah (hF.logs s hs) b h2).2 with k | ⟨k3,k4⟩
   ·rw [e2 b h1] at k;cases k
   ·left
    apply hF.same hr hs
    obtain ⟨q1,⟨_,q2,_⟩,q3⟩:=hF.Je hr
    obtain ⟨p1,⟨_,p2,_⟩,p3⟩:=hF.Je hs
    rw [q2] at k1;rw [p2] at k3
    rw [q3] at k2;rw [p3] at k4
    simp only at k1 k3
    rcases Nat.lt_trichotomy r.i s.i with h | h | h
    ·have:=hF.tr.jL hF.hI (j:=r.i+1) (k:=s.i) h (by omega);omega
    ·exact h
    ·have:=hF.tr.jL hF.hI (j:=s.i+1) (k:=r.i) h (by omega);omega
end Ev
end Go
end
end
section
section
namespace Go
namespace Ev
variable {P:Program} {inv:Iv} {ck:Ck} {n:Nat} {ops:Array Oper} {h:H} {TT:Nat→T Value} {NX:Nat→Nat} {RS:Nat→List Rec}
def HE (h:H) (nxF:Nat) (E:List Rec):H:=⟨layAll h.t E,nxF,gu E++h.log⟩
structure Mid (P:Program) (n:Nat) (ops:Array Oper) (h:H) (TT:Nat→T Value) (NX:Nat→Nat) (RS:Nat→List Rec) (ρ0:aY) (w0:World) (X:Nat→Prop) (E:List Rec) (ρ:aY) (a:Act) (w:World):Prop where
 closed:∀ j,X j→∀ o,ops[j]? = some o→∀ e∈o.after,Region.binds .any e=true→X e.on
 mem:∀ r,r∈E↔(r∈RS ops.size∧X r.i)
 pw:E.Pairwise fun r s=>Np ops r.i s.i=false
 size:a.tmps.size=n
 tmps:∀ d,∃ m,m≤ops.size∧(∀ j o,ops[j]? = some o→o.dst=some d→(X j↔j<m))∧∀ v,(TT m).get d=some v→∃ v',a.tmps[d]? = some v'∧VR ρ v v'
 heap:HR ρ (HE h (NX ops.size) E) w
 far:Far ρ0 h w0 ρ (HE h (NX ops.size) E) w fun b=>h.next≤b∧b<NX ops.size
 QL:∀ r∈RS ops.size,¬ X r.i→gK ρ r.h0.next r.h1.next
theorem Fine.set_ (hF:Fine P inv ck n ops h TT NX RS) {j:Nat} {o:Oper} (ho:ops[j]? = some o):∃ v,jl (TT j) n o.dst v=some (TT (j+1)):=by
 obtain ⟨v,e,_⟩:=hF.tr.step j o ho
 exact ⟨v,e⟩
theorem Fine.tt (hF:Fine P inv ck n ops h TT NX RS) {d p:Nat}:∀ {q:Nat},p≤q→q≤ops.size→(∀ j o,p≤j→j<q→ops[j]? = some o→o.dst≠some d)→(TT q).get d=(TT p).get d
 | 0,h1,_,_=>by obtain rfl:p=0:=by omega
                rfl
 | q+1,h1,h2,h3=>by
  by_cases e:p=q+1
  ·subst e;rfl
  ·have ho:ops[q]? = some (ops[q]'(by omega)):=Array.getElem?_eq_getElem (by omega)
   obtain ⟨v,e1⟩:=hF.set_ ho
   rw [TU e1 d (h3 q _ (by omega) (by omega) ho)]
   exact hF.tt (by omega) (by omega) fun j o a b=>h3 j o a (by omega)
theorem Fine.I4 (hF:Fine P inv ck n ops h TT NX RS) {d p q:Nat} (hp:p≤ops.size) (hq:q≤ops.size) (h3:∀ j o,ops[j]? = some o→o.dst=some d→(j<p↔j<q)):(TT q).get d=(TT p).get d:=by
 rcases Nat.le_total p q with e | e
 ·exact hF.tt e hq fun j o a b ho hd=>by have:=(h3 j o ho hd).2 b;omega
 ·exact (hF.tt e hp fun j o a b ho hd=>by have:=(h3 j o ho hd).1 b;omega).symm
theorem Fine.FQ (hF:Fine P inv ck n ops h TT NX RS) {E:List Rec} (hE:∀ r∈E,r∈RS ops.size) (nxF b:Nat):(HE h nxF E).get b=match E.find? (touches b) with | some r=>r.h1.get b | none=>h.get b:=
 qC _ _ _ fun r hr=>hF.TF (hE r hr)
variable {ρ0 ρ:aY} {w0 w:World} {X:Nat→Prop} {E:List Rec} {a:Act}
theorem Mid.pred (hM:Mid P n ops h TT NX RS ρ0 w0 X E ρ a w) {i j:Nat} (hX:X i) (e:Np ops j i=true):X j:=Aa hM.closed _ _ _ (hM.closed i hX) e
theorem Mid.reads (hF:Fine P inv ck n ops h TT NX RS) (hM:Mid P n ops h TT NX RS ρ0 w0 X E ρ a w) {i:Nat} {o:Oper} (ho:ops[i]? = some o) (hX:¬ X i) (hd:∀ e∈o.after,Region.binds .any e=true→X e.on):TR ρ n (only (TT i) (iP ops.toList o)) a.tmps:=by
 refine ⟨hM.size,fun d v hv=>?_⟩
 obtain ⟨hrd,hv⟩:=EY hv
 obtain ⟨m,m1,m2,m3⟩:=hM.tmps d
 have hi:=(Array.getElem?_eq_some_iff.1 ho).1
 have hpi:∀ {j},Np ops j i=true→X j:=fun e=>Aa hM.closed _ _ _ (fun o' ho'=>by rw [ho] at ho';cases ho';exact hd) e
 refine m3 v ?_
 rw [←hv]
 refine hF.I4 (by omega) m1 fun j oj hj hdj=>?_
 rw [←m2 j oj hj hdj]
 by_cases hij:j=i
 ·subst hij;exact ⟨fun h=>absurd h (by omega),fun h=>absurd h hX⟩
 ·have hord:=wP.1 (F9 hF.draw hj hdj hij ho (.inr hrd))
  rcases hord with e | e
  ·exact ⟨fun _=>hpi e,fun _=>hF.lt e⟩
  ·exact ⟨fun hlt=>by have:=hF.lt e;omega,fun hx=>absurd (hM.pred hx e) hX⟩
theorem Mid.known (hF:Fine P inv ck n ops h TT NX RS) (hM:Mid P n ops h TT NX RS ρ0 w0 X E ρ a w) {r:Rec} (hr:r∈RS ops.size) (hX:¬ X r.i) {o:Oper} (ho:ops[r.i]? = some o) (hd:∀ e∈o.after,Region.binds .any e=true→X e.on) (b:Nat) (ob:Ob)
  (hb:r.h0.get b=some ob):(HE h (NX ops.size) E).get b=some ob:=by
 have hpi:∀ {j},Np ops j r.i=true→X j:=fun e=>Aa hM.closed _ _ _ (fun o' ho'=>by rw [ho] at ho';cases ho';exact hd) e
 obtain ⟨hlt,⟨m,hr0,hum⟩,_⟩:=hF.Je hr
 have hsub:∀ s,s∈RS r.i↔(s∈RS ops.size∧s.i<r.i):=hF.tr.sub (by omega) (Nat.le_refl _)
 rw [hF.FQ fun s hs=>((hM.mem s).1 hs).1]
 have hb2:(behind ops.toList r.i h.t (RS r.i)).get b=some ob:=hum b ob (by rw [hr0] at hb;exact hb)
 rw [←hb2]
 rw [IP,qC _ _ _ fun s hs=>hF.TF ((hsub s).1 (List.mem_filter.1 hs).1).1]
 rw [←BQ (pr:=Np ops) (p:=touches b) (l:=(RS r.i).filter fun s=>nO ops.toList ops.toList.length s.i r.i) (m:=E) ?_ hM.pw ?_ ?_]
 ·rfl
 ·refine List.Pairwise.filter _ ((hF.tr.all (k:=r.i) (by omega)).2.imp fun {s t} hst=>?_)
  cases e:Np ops s.i t.i
  ·rfl
  ·have:=hF.lt e;omega
 ·intro s hts
  rw [List.mem_filter,hsub,hM.mem]
  constructor
  ·rintro ⟨⟨h1,_⟩,h2⟩;exact ⟨h1,hpi h2⟩
  ·rintro ⟨h1,h2⟩
   rcases hF.apart r hr s h1 with e | e | ⟨e,_⟩
   ·subst e;exact absurd h2 hX
   ·rcases wP.1 e with e | e
    ·exact absurd (hM.pred h2 e) hX
    ·exact ⟨⟨h1,hF.lt e⟩,e⟩
   ·rw [e b (vZ.1 hts)] at hb;cases hb
 ·intro s t hs ht h1 h2
  exact hF.both ((hsub s).1 (List.mem_filter.1 hs).1).1 ((hsub t).1 (List.mem_filter.1 ht).1).1 h1 h2
theorem Mid.build (hF:Fine P inv ck n ops h TT NX RS) (hM:Mid P n ops h TT NX RS ρ0 w0 X E ρ a w) {i:Nat} {o:Oper} (ho:ops[i]? = some o) (hX:¬ X i) (hd:∀ e∈o.after,Region.binds .any e=true→X e.on)
  {ρ':aY} {E':List Rec} {v v':Value} {w':World} (hset:jl (TT i) n o.dst v=some (TT (i+1))) (hle:Le ρ ρ') (hv:VR ρ' v v') (hmem:∀ r,r∈E'↔(r∈RS ops.size∧(X r.i∨r.i=i))) (hpw:E'.Pairwise (fun r s=>Np ops r.i s.i=false))
  (hheap:HR ρ' (HE h (NX ops.size) E') w') (hfar:Far ρ0 h w0 ρ' (HE h (NX ops.size) E') w' (fun b=>h.next≤b∧b<NX ops.size)) (hunb:∀ r∈RS ops.size,¬ X r.i→r.i≠i→gK ρ' r.h0.next r.h1.next) :
  Mid P n ops h TT NX RS ρ0 w0 (fun j=>X j∨j=i) E' ρ' (a.put o.dst v') w':=by
 have hi:=(Array.getElem?_eq_some_iff.1 ho).1
 have hpi:∀ {j},Np ops j i=true→X j:=fun e=>Aa hM.closed _ _ _ (fun o' ho'=>by rw [ho] at ho';cases ho';exact hd) e
 refine ⟨fun j hj o' ho' e he hb=>?_,hmem,hpw,?_,fun d=>?_,hheap,hfar,fun r hr hx=>hunb r hr (fun h=>hx (.inl h)) (fun h=>hx (.inr h))⟩
 ·rcases hj with hj | rfl
  ·exact .inl (hM.closed j hj o' ho' e he hb)
  ·rw [ho] at ho';cases ho';exact .inl (hd e he hb)
 ·have:=hM.size
  cases o.dst<;>simp [Act.put,this]
 ·obtain ⟨m,m1,m2,m3⟩:=hM.tmps d
  by_cases hdd:o.dst=some d
  ·refine ⟨i+1,by omega,fun j oj hj hdj=>?_,fun u hu=>?_⟩
   ·by_cases hij:j=i
    ·subst hij;exact ⟨fun _=>by omega,fun _=>.inr rfl⟩
    ·have hord:=wP.1 (F9 hF.draw hj hdj hij ho (.inl hdd))
     rcases hord with e | e
     ·exact ⟨fun _=>by have:=hF.lt e;omega,fun _=>.inl (hpi e)⟩
     ·refine ⟨fun h=>?_,fun h=>by have:=hF.lt e;omega⟩
      rcases h with h | h
      ·exact absurd (hM.pred h e) hX
      ·exact absurd h hij
   ·rw [hdd] at hset
    obtain ⟨q1,q2⟩:=QW hset
    rw [q1] at hu;cases hu
    refine ⟨v',?_,hv⟩
    rw [hdd]
    simp [Act.put,hM.size,q2]
  ·refine ⟨m,m1,fun j oj hj hdj=>?_,fun u hu=>?_⟩
   ·rw [←m2 j oj hj hdj]
    refine ⟨fun h=>h.resolve_right fun h=>?_,.inl⟩
    subst h;rw [ho] at hj;cases hj;exact hdd hdj
   ·obtain ⟨u',q1,q2⟩:=m3 u hu
    refine ⟨u',?_,q2.mono hle⟩
    cases hod:o.dst with
    | none=>exact q1
    | some d'=>
     simp only [Act.put]
     rw [Array.getElem?_setIfInBounds_ne (fun e=>hdd (by rw [hod,e]))]
     exact q1
theorem Mid.quiet (hF:Fine P inv ck n ops h TT NX RS) (hM:Mid P n ops h TT NX RS ρ0 w0 X E ρ a w) {i:Nat} {o:Oper} (ho:ops[i]? = some o) (hX:¬ X i) (hd:∀ e∈o.after,Region.binds .any e=true→X e.on)
  {v v':Value} (hset:jl (TT i) n o.dst v=some (TT (i+1))) (he:RS (i+1)=RS i) (hv:VR ρ v v'):Mid P n ops h TT NX RS ρ0 w0 (fun j=>X j∨j=i) E ρ (a.put o.dst v') w:=by
 have hi:=(Array.getElem?_eq_some_iff.1 ho).1
 refine hM.build hF ho hX hd hset (.refl ρ) hv (fun r=>?_) hM.pw hM.heap hM.far fun r hr hx _=>hM.QL r hr hx
 rw [hM.mem]
 refine ⟨fun h=>⟨h.1,.inl h.2⟩,fun h=>⟨h.1,h.2.resolve_right fun e=>?_⟩⟩
 have h1:=(hF.tr.sub (j:=i+1) (by omega) (Nat.le_refl _) r).2 ⟨h.1,by omega⟩
 rw [he] at h1
 have:=((hF.tr.all (k:=i) (by omega)).1 r h1).1
 omega
theorem Mid.loud (hF:Fine P inv ck n ops h TT NX RS) (hM:Mid P n ops h TT NX RS ρ0 w0 X E ρ a w) {i:Nat} {o:Oper} (ho:ops[i]? = some o) (hX:¬ X i) (hd:∀ e∈o.after,Region.binds .any e=true→X e.on)
  {v:Value} (hset:jl (TT i) n o.dst v=some (TT (i+1))) {h1:H} {m:T Ob} (he:RS (i+1)=⟨i,⟨m,NX i,[]⟩,h1⟩::RS i) :
  HR ρ ⟨m,NX i,[]⟩ w∧gK ρ (NX i) h1.next∧∃ E',∀ {ρ':aY} {v':Value} {w':World},Stp ρ ⟨m,NX i,[]⟩ w ρ' h1 w'→HR ρ' h1 w'→VR ρ' v v'→Mid P n ops h TT NX RS ρ0 w0 (fun j=>X j∨j=i) E' ρ' (a.put o.dst v') w':=by
 have hi:=(Array.getElem?_eq_some_iff.1 ho).1
 have hrin:(⟨i,⟨m,NX i,[]⟩,h1⟩:Rec)∈RS ops.size:=((hF.tr.sub (j:=i+1) (by omega) (Nat.le_refl _) _).1 (by rw [he];simp)).1
 generalize hrr:(⟨i,⟨m,NX i,[]⟩,h1⟩:Rec)=r at hrin
 have hri:r.i=i:=by rw [←hrr]
 have hr0:r.h0=⟨m,NX i,[]⟩:=by rw [←hrr]
 have hr1:r.h1=h1:=by rw [←hrr]
 have hk:=hM.known hF hrin (by rw [hri];exact hX) (by rw [hri];exact ho) hd
 have hun:=hM.QL r hrin (by rw [hri];exact hX)
 have hHR:HR ρ r.h0 w:=⟨hM.heap.dH,fun c oc hc=>hM.heap.ob c oc (hk c oc hc),fun c d x k l hc hd' hx hy=>by
  obtain ⟨oc,hoc⟩:=Option.isSome_iff_exists.1 hc
  obtain ⟨od,hod⟩:=Option.isSome_iff_exists.1 hd'
  exact hM.heap.inj c d x k l (by rw [hk c oc hoc];rfl) (by rw [hk d od hod];rfl) hx hy⟩
 rw [←hr0,← hr1]
 have hnx0:r.h0.next=NX i:=by rw [hr0]
 rw [←hnx0]
 refine ⟨hHR,hun,r::E,fun {ρ' v' w'} s2 s3 s4=>?_⟩
 obtain ⟨_,⟨_,q2,_⟩,q3⟩:=hF.Je hrin
 have hnx1:r.h1.next=NX (i+1):=by rw [q3,hri]
 have hlo:=hF.tr.jL hF.hI (j:=0) (k:=i) (by omega) (by omega)
 have hhi:=hF.tr.jL hF.hI (j:=i+1) (k:=ops.size) (by omega) (by omega)
 rw [hF.nx0] at hlo
 obtain ⟨f1,f2⟩:=OT (HE:=HE h (NX ops.size) E) (HE':=HE h (NX ops.size) (r::E)) (N:=fun b=>h.next≤b∧b<NX ops.size) hM.heap hk (by rw [hr0]) (Ah (hF.logs r hrin)) s2 s3 hun
  (fun b=>by
   show (lay r.h1 r.h1.log (layAll h.t E)).get b=_
   exact JA _ _ _ _ (hF.TF hrin)) (by simp [HE,gu]) (fun b h1 h2=>⟨by omega,by omega⟩)
 refine hM.build hF ho hX hd hset s2.le s4 (fun s=>?_) (List.pairwise_cons.2 ⟨fun s hs=>?_,hM.pw⟩) f2 (hM.far.trans f1) fun s hs hx hne=>?_
 ·rw [List.mem_cons,hM.mem]
  constructor
  ·rintro (rfl | ⟨a1,a2⟩)
   ·exact ⟨hrin,.inr hri⟩
   ·exact ⟨a1,.inl a2⟩
  ·rintro ⟨a1,a2 | a2⟩
   ·exact .inr ⟨a1,a2⟩
   ·exact .inl (hF.same a1 hrin (by omega))
 ·cases e:Np ops r.i s.i
  ·rfl
  ·have:=hM.pred ((hM.mem s).1 hs).2 e
   rw [hri] at this;exact absurd this hX
 ·have hus:=hM.QL s hs hx
  obtain ⟨p1,⟨_,p2,_⟩,p3⟩:=hF.Je hs
  refine fun y y1 y2=>s2.born y (hus y y1 y2) ?_
  rw [hnx0,hnx1]
  rw [p2] at y1
  rw [p3] at y2
  simp only at y1
  rcases Nat.lt_or_gt_of_ne hne with hlt | hgt
  ·have:=hF.tr.jL hF.hI (j:=s.i+1) (k:=i) (by omega) (by omega);exact .inl (by omega)
  ·have:=hF.tr.jL hF.hI (j:=i+1) (k:=s.i) (by omega) (by omega);exact .inr (by omega)
theorem Mid.go (hI:iH P inv) (hF:Fine P inv ck n ops h TT NX RS) (hM:Mid P n ops h TT NX RS ρ0 w0 X E ρ a w) {i:Nat} {o:Oper} (ho:ops[i]? = some o) (hX:¬ X i) (hd:∀ e∈o.after,Region.binds .any e=true→X e.on) {b:Frame} {k:List Item} {cs:List Frame} (rest:List Nat) :
  ∃ ρ' E' v' w',Steps P (lone (b.atR a (.inRegion ops (i::rest)::k)) cs w) (lone (b.atR (a.put o.dst v') (.inRegion ops rest::k)) cs w')∧Mid P n ops h TT NX RS ρ0 w0 (fun j=>X j∨j=i) E' ρ' (a.put o.dst v') w':=by
 have hR:=hM.reads hF ho hX hd
 obtain ⟨v,hset,hs⟩:=hF.tr.step i o ho
 rcases hs with ⟨hw,_,rfl,_,he⟩ | ⟨hw,_,_,hp,_,he⟩ | ⟨hw,_,h1,e1,e2,he⟩
 ·
  have hwant:=dP hR hw
  have hst:=stepR_op_skip (P:=P) (b:=b) (a:=a) (k:=k) (cs:=cs) (w:=w) (ops:=ops) (i:=i) (rest:=rest) (by rw [ho];simpa using hwant)
  rw [ho] at hst
  exact ⟨ρ,E,undef,w,.one hst,hM.quiet hF ho hX hd hset he ja⟩
 ·
  have hwant:=dP hR hw
  obtain ⟨v',q1,q2⟩:=pure_ok (o:=o) (dh hR) hp w
  exact ⟨ρ,E,v',w,.one (jo ho hwant (gq hp) q1 (.inl rfl)),hM.quiet hF ho hX hd hset he q2⟩
 ·
  have hwant:=dP hR hw
  obtain ⟨hHR,hun,E',hnew⟩:=hM.loud hF ho hX hd hset he
  obtain ⟨ρ',v',w',s1,s2,s3,s4⟩:=Oi (b:=b) (k:=k) (cs:=cs) hI e1 ho hwant hR hHR hun rest
  exact ⟨ρ',E',v',w',s1,hnew s2 s3 s4⟩
end Ev
end Go
end
end
section
section
namespace Go
namespace Ev
variable {P:Program} {inv:Iv} {ck:Ck} {n:Nat} {ops:Array Oper} {h:H} {TT:Nat→T Value} {NX:Nat→Nat} {RS:Nat→List Rec}
def qZ (ops:Array Oper) (listed:Array Bool):List Nat:=(List.range ops.size).filter fun j=>!listed.getD j true
theorem Ai {listed:Array Bool} {j:Nat}:j∈qZ ops listed↔j<ops.size∧listed.getD j true=false:=by simp [qZ]
theorem getD_both {listed:Array Bool} {j:Nat} (hj:j<listed.size):listed.getD j true=listed.getD j false:=by simp [Array.getD,hj]
theorem Iw {listed:Array Bool} {i:Nat} (hs:listed.size=ops.size) (hi:i∈qZ ops listed):(qZ ops (listed.setIfInBounds i true)).length<(qZ ops listed).length:=by
 have e:qZ ops (listed.setIfInBounds i true)=(qZ ops listed).filter fun j=>j != i:=by
  unfold qZ
  rw [List.filter_filter]
  apply List.filter_congr
  intro j hj
  have hj':j<listed.size:=by rw [hs];simpa using hj
  by_cases hij:j=i
  ·subst hij;simp [Array.getD,hj']
  ·rw [getD_set_ne true (Ne.symm hij)];simp [hij]
 rw [e]
 refine List.length_filter_lt_length_iff_exists.2 ⟨i,hi,by simp⟩
theorem Z5 (hI:iH P inv) (hF:Fine P inv ck n ops h TT NX RS) {ρ0:aY} {w0:World} {b:Frame} {k:List Item} {cs:List Frame} {ds:List Deferred}:∀ (fuel t:Nat) (listed:Array Bool) {E:List Rec} {ρ:aY} {a:Act} {w:World},listed.size=ops.size→(qZ ops listed).length≤fuel→a.defers=ds →
  Mid P n ops h TT NX RS ρ0 w0 (fun j=>listed.getD j false=true) E ρ a w →
  ∃ X E' ρ' a' w',Steps P (lone (b.atR a (.inRegion ops (Region.linearise.go .any ops fuel t listed [])::k)) cs w) (lone (b.atR a' (.inRegion ops []::k)) cs w')∧a'.defers=ds∧(∀ j,j<ops.size→X j)∧Mid P n ops h TT NX RS ρ0 w0 X E' ρ' a' w':=by
 intro fuel
 induction fuel with
 | zero=>
  intro t listed E ρ a w hs hl hds hM
  have hnil:qZ ops listed=[]:=List.eq_nil_of_length_eq_zero (by omega)
  refine ⟨_,E,ρ,a,w,by simpa [Region.linearise.go] using Steps.refl P _,hds,fun j hj=>?_,hM⟩
  cases e:listed.getD j true
  ·have:j∈qZ ops listed:=Ai.2 ⟨hj,e⟩
   rw [hnil] at this;cases this
  ·rw [←getD_both (by omega)];exact e
 | succ fuel ih=>
  intro t listed E ρ a w hs hl hds hM
  simp only [Region.linearise.go]
  change ∃ X E' ρ' a' w',Steps P (lone (b.atR a (.inRegion ops (match (Region.ready .any ops listed)[t % (Region.ready .any ops listed).length]? with
   | some i=>Region.linearise.go .any ops fuel (t / (Region.ready .any ops listed).length) (listed.setIfInBounds i true) [i]
   | none=>[].reverse)::k)) cs w) _∧_
  cases hi:(Region.ready .any ops listed)[t % (Region.ready .any ops listed).length]? with
  | none=>
   have hnil:Region.ready .any ops listed=[]:=by
    cases hr:Region.ready .any ops listed with
    | nil=>rfl
    | cons x xs=>
     rw [hr] at hi
     have hlt:t % (x::xs).length<(x::xs).length:=Nat.mod_lt _ (by simp)
     simp at hi
     simp at hlt
     omega
   have hall:∀ m j,j<m→j<ops.size→listed.getD j true=true:=by
    intro m
    induction m with
    | zero=>intro j h1;omega
    | succ m ihm=>
     intro j h1 h2
     by_cases hjm:j<m
     ·exact ihm j hjm h2
     ·obtain rfl:j=m:=by omega
      cases e:listed.getD j true
      ·exfalso
       have:j∈Region.ready .any ops listed:=mem_ready.2 ⟨e,_,Array.getElem?_eq_getElem h2,fun ed hed hb=>by
        have hlow:=y9 hF.draw (Array.getElem?_eq_getElem h2) ed hed hb
        rw [←getD_both (by omega)]
        exact ihm _ hlow (by omega)⟩
       rw [hnil] at this;cases this
      ·rfl
   refine ⟨_,E,ρ,a,w,by simpa using Steps.refl P _,hds,fun j hj=>?_,hM⟩
   rw [←getD_both (by omega)];exact hall (j+1) j (by omega) hj
  | some i=>
   simp only []
   rw [linearise_go_acc,List.reverse_singleton,List.singleton_append]
   obtain ⟨q1,o,q2,q3⟩:=mem_ready.1 (List.mem_of_getElem? hi)
   have hio:=(Array.getElem?_eq_some_iff.1 q2).1
   obtain ⟨ρ1,E1,v1,w1,s1,s2⟩:=hM.go hI hF q2 (by rw [←getD_both (by omega),q1];simp) q3 (b:=b) (k:=k) (cs:=cs) (Region.linearise.go .any ops fuel (t / (Region.ready .any ops listed).length) (listed.setIfInBounds i true) [])
   have hX:(fun j=>listed.getD j false=true∨j=i)=fun j=>(listed.setIfInBounds i true).getD j false=true:=by
    funext j
    by_cases e:j=i
    ·subst e;simp [Array.getD,hs,hio]
    ·rw [getD_set_ne false (Ne.symm e)];simp [e]
   rw [hX] at s2
   have hlt:=Iw hs (Ai.2 ⟨hio,q1⟩)
   obtain ⟨X,E',ρ',a',w',p1,p2,p3,p4⟩:=ih (t / (Region.ready .any ops listed).length) (listed.setIfInBounds i true) (by simpa using hs) (by omega) (by rw [put_defers];exact hds) s2
   exact ⟨X,E',ρ',a',w',s1.trans p1,p2,p3,p4⟩
theorem O9 {ops:Array Oper} (h:AQ ops.toList=false):Region.departs ops=false:=by
 unfold Region.departs
 rw [Array.any_eq_false']
 intro o ho
 have h1:=List.any_eq_false.1 h o (by simpa using ho)
 simp only [Bool.not_eq_true] at h1 ⊢
 rw [Array.any_eq_false']
 intro e he
 exact List.any_eq_false.1 h1 e (by simpa using he)
theorem zH {P:Program} {ops:Array Oper} (h:(match P.follows .mixedOrders with | true=>true | false=>!AQ ops.toList)=true) (t:Nat):Region.schedule (P.follows .mixedOrders) ops t=Region.linearise .any ops t:=by
 unfold Region.schedule
 split at h
 ·rename_i e;rw [e];simp
 ·rw [O9 (by simpa using h)];simp
theorem qy {b:Nat}:∀ {rs:List Rec},b∈gu rs ↔ ∃ r∈rs,b∈r.h1.log
 | []=>by simp [gu]
 | r::rs=>by rw [gu,List.mem_append,qy];simp
theorem jD (hI:iH P inv):fF P inv:=fun ck n ops t t' h h' e=>by
 unfold yZ at e
 split at e
 ·rename_i hdraw hdep
  split at e
  ·rename_i t1 nx rs hreg
   split at e
   ·rename_i hap hlog
    cases e
    obtain ⟨TT,NX,RS,a1,a2,a3,a4,a5,a6,a7⟩:=Bo hreg
    have hsz:0+ops.toList.length=ops.size:=by simp
    rw [hsz] at a4 a5 a6
    subst a4 a5 a6
    have hF:Fine P inv ck n ops h TT NX RS:={
     hI:=hI.next
     tr:=⟨fun j o ho=>by simpa using a7 j o (by simpa using ho),a3⟩
     draw:=hdraw
     apart:=fun r hr s hs=>xy hap r hr s hs
     logs:=fun r hr=>List.all_eq_true.1 hlog r hr
     nx0:=a2 }
    have hnx:=hF.tr.jL hF.hI (j:=0) (k:=ops.size) (by omega) (by omega)
    rw [a2] at hnx
    refine ⟨hnx,fun {ρ b a k cs w} x hk ht hr hu=>?_⟩
    rw [zH hdep]
    unfold Region.linearise
    have hX0:∀ j,(Array.replicate ops.size false).getD j false=false:=fun j=>by
     simp only [Array.getD];split<;>simp
    have hM0:Mid P n ops h TT NX RS ρ w (fun j=>(Array.replicate ops.size false).getD j false=true) [] ρ a w:={
     closed:=fun j hj=>by rw [hX0] at hj;cases hj
     mem:=fun r=>by simp [hX0]
     pw:=.nil
     size:=ht.size
     tmps:=fun d=>⟨0,by omega,fun j o _ _=>by simp [hX0],fun v hv=>ht.get d v (by rw [←a1];exact hv)⟩
     heap:=⟨hr.dH,hr.ob,hr.inj⟩
     far:=⟨.refl ρ,fun _ h _=>h,Nat.le_refl _,[],rfl,fun x o hx _=>hx,fun _ _ _ h=>.inl h,fun _ h=>by simp at h,fun _ _=>rfl,fun _ _ _=>rfl⟩
     QL:=fun r hr _=>by
      obtain ⟨q1,⟨_,q2,_⟩,q3⟩:=hF.Je hr
      have h1:=hF.tr.jL hF.hI (j:=0) (k:=r.i) (by omega) (by omega)
      have h2:=hF.tr.jL hF.hI (j:=r.i+1) (k:=ops.size) (by omega) (by omega)
      rw [a2] at h1
      exact hu.sub (by rw [q2];exact h1) (by rw [q3];exact h2) }
    obtain ⟨X,E,ρ',a',w',s1,s2,s3,s4⟩:=Z5 hI hF (b:=b) (k:=k) (cs:=cs) (ds:=a.defers) ops.size x (Array.replicate ops.size false) (by simp) (by
     refine Nat.le_trans (List.length_filter_le _ _) (by simp)) rfl hM0
    have hmem:∀ r,r∈E↔r∈RS ops.size:=fun r=>by
     rw [s4.mem]
     exact ⟨fun h=>h.1,fun h=>⟨h,s3 _ (hF.Je h).1⟩⟩
    have hget:∀ c,(⟨layAll h.t (RS ops.size),NX ops.size,gu (RS ops.size)++h.log⟩:H).get c=(HE h (NX ops.size) E).get c:=fun c=>by
     rw [hF.FQ fun r hr=>(hmem r).1 hr]
     show (layAll h.t (RS ops.size)).get c=_
     rw [qC _ _ _ fun r hr=>hF.TF hr]
     rw [BQ (pr:=Np ops) (p:=touches c) (l:=RS ops.size) (m:=E) ((hF.tr.all (Nat.le_refl _)).2.imp fun {r s} hrs=>by
      cases e:Np ops r.i s.i
      ·rfl
      ·have:=hF.lt e;omega) s4.pw (fun r _=>(hmem r).symm) (fun r s hr hs h1 h2=>hF.both hr hs h1 h2)]
     rfl
    have hlg:∀ c,c∈gu (RS ops.size)↔c∈gu E:=fun c=>by
     rw [qy,qy]
     exact ⟨fun ⟨r,h1,h2⟩=>⟨r,(hmem r).2 h1,h2⟩,fun ⟨r,h1,h2⟩=>⟨r,(hmem r).1 h1,h2⟩⟩
    refine ⟨ρ',a',w',s1.trans (.one stepR_region_end),s2,?_,⟨s4.heap.dH,fun c oc hc=>s4.heap.ob c oc (by rw [←hget];exact hc),fun c d x k l hc hd=>s4.heap.inj c d x k l (by rw [←hget];exact hc) (by rw [←hget];exact hd)⟩,s4.size,fun d v hv=>?_⟩
    ·obtain ⟨l,e1,f1,o1,t1,g1,k1⟩:=s4.far.log
     have hl:l=gu E:=List.append_cancel_right (show l++h.log=gu E++h.log from e1.symm)
     subst hl
     refine ⟨s4.far.le,hnx,fun b hb hx=>s4.far.born b hb fun hn=>?_,s4.far.size,gu (RS ops.size),rfl,fun x o hx hn=>f1 x o hx fun c m hc=>hn c m ((hlg c).2 hc),fun c x m hc=>?_,fun c hc=>t1 c ((hlg c).1 hc),fun c hc=>?_,fun c hc=>k1 c fun h=>hc ((hlg c).2 h)⟩
     ·simp only at hx;omega
     ·rcases o1 c x m hc with h | ⟨h1,h | ⟨d,m',h2,h3⟩⟩
      ·exact .inl h
      ·exact .inr ⟨h1,.inl h⟩
      ·exact .inr ⟨h1,.inr ⟨d,m',(hlg d).2 h2,h3⟩⟩
     ·rw [hget];exact g1 c fun h=>hc ((hlg c).2 h)
    ·obtain ⟨m,m1,m2,m3⟩:=s4.tmps d
     refine m3 v ?_
     rw [←hv]
     exact hF.I4 (Nat.le_refl _) m1 fun j o hj hd=>by
      have hjs:=(Array.getElem?_eq_some_iff.1 hj).1
      rw [←m2 j o hj hd]
      exact ⟨fun _=>s3 j hjs,fun _=>hjs⟩
   ·cases e
  ·cases e
 ·cases e
end Ev
end Go
end
end
section
section
namespace Go
namespace Ev
variable {P:Program} {hk:FuncId→List Value→H→Option (Option (Value × H))}
theorem reckon (hH:df P hk) {d:Nat} {f:FuncId} {args:List Value} {h h':H} {v:Value} (e:qO P hk d (.func f) args h=some (v,h')):aV P f args h v h':=
 Sm hH (fun inv hI=>jD hI) e
def kF:FuncId→List Value→H→Option (Option (Value × H)):=fun _ _ _=>none
theorem fD:df P kF:=fun _ _ _ _ _ h=>by cases h
def H.empty:H:=⟨.nil,0,[]⟩
theorem Me (w:World) (hw:gJ w):HR (fun _=>.aT) H.empty w:=⟨hw,fun b o h=>(by cases h),fun b c x k l h=>(by cases h)⟩
theorem reckoned (hH:df P hk) {d:Nat} {f:FuncId} {args:List Value} {h':H} {v:Value} (e:qO P hk d (.func f) args H.empty=some (v,h')) (ha:ig args=true) (w:World) (hw:gJ w) :
  Calls P f ⟨args⟩ w fun e w'=>∃ v' ρ',e = .returned v'∧Stp (fun _=>.aT) H.empty w ρ' h' w'∧HR ρ' h' w'∧VR ρ' v v':=
 (reckon hH e).calls (mX ha) (Me w hw) fun _ _ _=>rfl
end Ev
end Go
#print axioms Go.Ev.reckoned
end
end
section
section
namespace Go
namespace Ev
variable {P:Program}
mutual
def knows (h:H):Value→Bool
 | .pointer (some a)=>(h.get a.block).isSome
 | .slice (some a) _ _=>(h.get a.block).isSome
 | .map (some r)=>(h.get r).isSome
 | .func (.yield l) _ _=>(h.get l).isSome
 | .chan (some r)=>(h.get r).isSome
 | .func _ ⟨a⟩ ⟨b⟩=>rH h a&&rH h b
 | .agg ⟨cs⟩ | .tuple ⟨cs⟩=>rH h cs
 | _=>true
def rH (h:H):List Value→Bool
 | []=>true
 | v::l=>knows h v&&rH h l
end
def part (ρ:aY) (h:H):aY:=fun b=>if (h.get b).isSome then ρ b else .aT
theorem gV {ρ:aY} {h:H} {b:Nat} (e:(h.get b).isSome=true):part ρ h b=ρ b:=by simp [part,e]
theorem BR.part {ρ:aY} {h:H} {b b':Nat} (hb:BR ρ b b') (e:(h.get b).isSome=true):BR (part ρ h) b b':=by
 unfold BR at *
 rw [gV e]
 exact hb
mutual
theorem VR.part {ρ:aY} {h:H}:∀ {v v':Value},VR ρ v v'→knows h v=true→VR (part ρ h) v v'
 | _,_,.same ha,_=>.same ha
 | _,_,.ptr ha,e=>.ptr ⟨ha.block.part (by simpa [knows] using e),ha.off,ha.spot,ha.spot'⟩
 | _,_,.slice (a:=a) ha hc,e=>.slice ⟨ha.block.part (by simpa [knows] using e),ha.off,ha.spot,ha.spot'⟩ (by
   have e':(h.get a.block).isSome=true:=by simpa [knows] using e
   rcases hc with hc | ⟨h1,h2,h3⟩
   ·exact .inl hc
   ·exact .inr ⟨h1,h2,fun x k hx=>h3 x k ((gV e').symm.trans hx)⟩)
 | _,_,.map hb,e=>.map (hb.part (by simpa [knows] using e))
 | _,_,.func ha hb,e=>by
   simp only [knows,Bool.and_eq_true] at e
   exact .func (eQ.part ha e.1) (eQ.part hb e.2)
 | _,_,.yield hb,e=>.yield (hb.part (by simpa [knows] using e))
 | _,_,.chan hb,e=>.chan (hb.part (by simpa [knows] using e))
 | _,_,.agg hs,e=>.agg (eQ.part hs (by simpa [knows] using e))
 | _,_,.tuple hs,e=>.tuple (eQ.part hs (by simpa [knows] using e))
theorem eQ.part {ρ:aY} {h:H}:∀ {l l':List Value},eQ ρ l l'→rH h l=true→eQ (part ρ h) l l'
 | _,_,.nil,_=>.nil
 | _,_,.cons hv hs,e=>by
   simp only [rH,Bool.and_eq_true] at e
   exact .cons (hv.part e.1) (eQ.part hs e.2)
end
def ofList:List (Nat × Ob)→T Ob
 | []=>.nil
 | (b,o)::l=>T.put T.deep (ofList l) b (some o)
def OC (h:H):Ob→Bool
 | .cells c _ _=>rH h c
 | .shut c _=>rH h c
 | .map _ _=>true
 | _=>false
theorem OR.part {ρ:aY} {h:H} {k:Nat} {o:Ob} {o':Obj} (ho:OR ρ k o o') (e:OC h o=true):OR (part ρ h) k o o':=by
 cases o with
 | cells c el s=>obtain ⟨d,r,h1,h2,h3⟩:=ho;exact ⟨d,r,h1,h2.part e,h3⟩
 | map es c=>exact ho
 | iter _ _ _ _=>cases e
 | loop _ _ _ _ _ _ _ _ _=>cases e
 | calls _=>cases e
 | Wv _ _=>cases e
 | lq _ _ _=>cases e
 | half _ _ _ _=>cases e
 | shut c el=>obtain ⟨d,r,fz,h1,h2⟩:=ho;exact ⟨d,r,fz,h1,h2.part e⟩
def Quiet (P:Program) (f:FuncId) (args:List Value) (kn:List (Nat × Ob)) (v:Value):Prop:=
 (∃ fn c,P.funcs[f]? = some fn∧fn.body=some c∧(fn.name == "runtime.NumGoroutine")=false)∧flat v=true ∧
 ∀ ρ args' w,eQ ρ args args'→HR ρ ⟨ofList kn,0,[]⟩ w→Calls P f ⟨args'⟩ w fun e w'=>e = .returned v∧gJ w'∧∀ (x:Nat) (o:Obj),w.heap[x]? = some o→w'.heap[x]? = some o
def start (kn:List (Nat × Ob)) (nx:Nat):H:=⟨ofList kn,nx,[]⟩
def JI (h:H):Nat→Bool
 | 0=>true
 | n+1=>match h.get (h.next+n) with
  | none=>JI h n
  | some _=>false
theorem IC {h:H}:∀ {n:Nat},JI h n=true→∀ b,h.next≤b→b<h.next+n→h.get b=none
 | 0,e,b,h1,h2=>absurd h2 (by omega)
 | n+1,e,b,h1,h2=>by
  simp only [JI] at e
  split at e
  ·rename_i hn
   by_cases hb:b=h.next+n
   ·rw [hb];exact hn
   ·exact IC e b h1 (by omega)
  ·cases e
def BB (P:Program) (hk:FuncId→List Value→H→Option (Option (Value × H))) (d:Nat) (f:FuncId) (args:List Value) (kn:List (Nat × Ob)) (nx:Nat):Option Value:=
 match qO P hk d (.func f) args (start kn nx) with
 | some (v,h')=>match flat v,rH (start kn nx) args,kn.all fun p=>OC (start kn nx) p.2,h'.log.all fun b=>Nat.ble nx b,JI (start kn nx) (h'.next - nx) with
  | true,true,true,true,true=>match kn.all fun p=>Nat.blt p.1 top&&Nat.blt p.1 nx with
   | true=>some v
   | false=>none
  | _,_,_,_,_=>none
 | none=>none
theorem dY {kn:List (Nat × Ob)} (ht:∀ p∈kn,p.1<top) {b:Nat} {o:Ob} (h:(ofList kn).get b=some o):(b,o)∈kn:=by
 induction kn with
 | nil=>cases h
 | cons p kn ih=>
  obtain ⟨c,oc⟩:=p
  rw [ofList,T.get_put _ _ _ _ _ (aO (ht (c,oc) (by simp)))] at h
  split at h
  ·rename_i e;cases h;subst e;simp
  ·exact List.mem_cons_of_mem _ (ih (fun p hp=>ht p (by simp [hp])) h)
theorem EL {hk:FuncId→List Value→H→Option (Option (Value × H))} (hH:df P hk) {d:Nat} {f:FuncId} {args:List Value} {kn:List (Nat × Ob)} {nx:Nat} {v:Value} (e:BB P hk d f args kn nx=some v):Quiet P f args kn v:=by
 unfold BB at e
 split at e
 ·rename_i u h' ei
  split at e
  ·rename_i e1 e2 e3 e4 e5
   split at e
   ·rename_i e6
    cases e
    have hF:=reckon hH ei
    have ht:∀ p∈kn,p.1<top:=fun p hp=>by have:=List.all_eq_true.1 e6 p hp;simp only [Bool.and_eq_true,Nat.blt_eq] at this;exact this.1
    obtain ⟨n1,fn,c,q1,q2,q3,_⟩:=id hF
    have n1:nx≤h'.next:=n1
    refine ⟨⟨fn,c,q1,q2,q3⟩,e1,fun ρ args' w ha hr=>?_⟩
    have hva:eQ (part ρ (start kn nx)) args args':=ha.part e2
    have hHR:HR (part ρ (start kn nx)) (start kn nx) w:=⟨hr.dH,fun b o hb=>by
     obtain ⟨x,k,o',p1,p2,p3⟩:=hr.ob b o hb
     have hs:((start kn nx).get b).isSome=true:=by rw [hb];rfl
     exact ⟨x,k,o',by rw [gV hs];exact p1,p2,p3.part (List.all_eq_true.1 e3 _ (dY ht hb))⟩,fun b c x k l hb hc hx hy=>by
     rw [gV hb] at hx
     rw [gV hc] at hy
     exact hr.inj b c x k l hb hc hx hy⟩
    have hunb:gK (part ρ (start kn nx)) (start kn nx).next h'.next:=fun b h1 h2=>by
     have h1:nx≤b:=h1
     have:=IC e5 b h1 (by show b<nx+(h'.next - nx);omega)
     simp [part,this]
    refine (hF.calls hva hHR hunb).mono ?_
    rintro e w' ⟨v',ρ',rfl,s1,s2,s3⟩
    refine ⟨by rw [s3.flat e1],s2.dH,fun x o hx=>?_⟩
    obtain ⟨l,l1,l2,_⟩:=s1.log
    have l1:h'.log=l:=by rw [l1];exact List.append_nil l
    refine l2 x o hx fun b k hb hbx=>?_
    have hge:=Nat.le_of_ble_eq_true (List.all_eq_true.1 e4 b (by rw [l1];exact hb))
    have hnone:(start kn nx).get b=none∨((start kn nx).get b).isSome=true:=by cases (start kn nx).get b<;>simp
    rcases hnone with hn | hn
    ·simp [part,hn] at hbx
    ·obtain ⟨ob,hob⟩:=Option.isSome_iff_exists.1 hn
     have:=List.all_eq_true.1 e6 _ (dY ht hob)
     simp only [Bool.and_eq_true,Nat.blt_eq] at this
     omega
   ·cases e
  ·cases e
 ·cases e
def Ob.Le (o p:Ob):Prop:=o=p ∨ ∃ c e s,o = .cells c e s∧p = .shut c e
theorem Ob.Le.or {o p:Ob} (h:o.Le p) {ρ:aY} {k:Nat} {x:Obj} (hx:OR ρ k o x):OR ρ k p x:=by
 rcases h with rfl | ⟨c,e,s,rfl,rfl⟩
 ·exact hx
 ·obtain ⟨d,r,h1,h2,_⟩:=hx
  exact ⟨d,r,_,h1,h2⟩
theorem Quiet.does {f:FuncId} {args:List Value} {kn:List (Nat × Ob)} {v:Value} (hq:Quiet P f args kn v) (ht:∀ p∈kn,p.1<top) {h:H} (hk:∀ p∈kn,∃ o,h.get p.1=some o∧o.Le p.2):aV P f args h v h:=by
 obtain ⟨⟨fn,c,q1,q2,q3⟩,hf,hc⟩:=hq
 refine aV.E5 (Nat.le_refl _) q1 q2 q3 fun {ρ args' w} ha hr hu=>?_
 have hr0:HR ρ ⟨ofList kn,0,[]⟩ w:=⟨hr.dH,fun b o hb=>by
  obtain ⟨o1,h1,h2⟩:=hk (b,o) (dY ht hb)
  obtain ⟨x,k,o',p1,p2,p3⟩:=hr.ob b o1 h1
  exact ⟨x,k,o',p1,p2,h2.or p3⟩,fun b c x k l hb hc' hx hy=>by
  obtain ⟨ob,hob⟩:=Option.isSome_iff_exists.1 hb
  obtain ⟨oc,hoc⟩:=Option.isSome_iff_exists.1 hc'
  obtain ⟨o1,h1,_⟩:=hk (b,ob) (dY ht hob)
  obtain ⟨o2,h2,_⟩:=hk (c,oc) (dY ht hoc)
  exact hr.inj b c x k l (by rw [h1];rfl) (by rw [h2];rfl) hx hy⟩
 refine (hc ρ args' w ha hr0).mono ?_
 rintro e w' ⟨rfl,htame,hkeep⟩
 refine ⟨v,ρ,rfl,⟨.refl ρ,Nat.le_refl _,fun _ hb _=>hb,?_,[],rfl,fun x o hx _=>hkeep x o hx,fun _ _ _ hb=>.inl hb,fun _ hb=>by simp at hb,fun _ _=>rfl,fun _ _ _=>rfl⟩,⟨htame,fun b o hb=>?_,hr.inj⟩,bF hf⟩
 ·rcases Nat.eq_zero_or_pos w.heap.size with h0 | h0
  ·omega
  ·have hlt:w.heap.size - 1<w.heap.size:=by omega
   have:=hkeep (w.heap.size - 1) _ (Array.getElem?_eq_getElem hlt)
   have:=(Array.getElem?_eq_some_iff.1 this).1
   omega
 ·obtain ⟨x,k,o',p1,p2,p3⟩:=hr.ob b o hb
  exact ⟨x,k,o',p1,hkeep x o' p2,p3⟩
def eqA (a b:Addr):Bool:=
 match a,b with
 | ⟨x,o,none⟩,⟨y,p,none⟩=>Nat.beq x y&&Nat.beq o p
 | _,_=>false
theorem eqA_eq {a b:Addr} (h:eqA a b=true):a=b:=by
 unfold eqA at h
 split at h
 ·simp only [Bool.and_eq_true] at h
  rw [Nat.eq_of_beq_eq_true h.1,Nat.eq_of_beq_eq_true h.2]
 ·cases h
def X3 (a b:Option Addr):Bool:=
 match a,b with
 | none,none=>true
 | some a,some b=>eqA a b
 | _,_=>false
theorem Qp {a b:Option Addr} (h:X3 a b=true):a=b:=by
 unfold X3 at h
 split at h
 ·rfl
 ·rw [eqA_eq h]
 ·cases h
def SK (a b:Option Nat):Bool:=
 match a,b with
 | none,none=>true
 | some a,some b=>Nat.beq a b
 | _,_=>false
theorem DV {a b:Option Nat} (h:SK a b=true):a=b:=by
 unfold SK at h
 split at h
 ·rfl
 ·rw [Nat.eq_of_beq_eq_true h]
 ·cases h
mutual
def uz:Value→Value→Bool
 | .bool a,u=>match u with | .bool b=>a==b | _=>false
 | .int j a,u=>match u with | .int k b=>decide (j=k)&&decide (a=b) | _=>false
 | .string a,u=>match u with | .string b=>decide (a=b) | _=>false
 | .nilFunc,u=>match u with | .nilFunc=>true | _=>false
 | .nilIface,u=>match u with | .nilIface=>true | _=>false
 | .pointer a,u=>match u with | .pointer b=>X3 a b | _=>false
 | .slice a n c,u=>match u with | .slice b m d=>X3 a b&&Nat.beq n m&&Nat.beq c d | _=>false
 | .map a,u=>match u with | .map b=>SK a b | _=>false
 | .chan a,u=>match u with | .chan b=>SK a b | _=>false
 | .agg ⟨a⟩,u=>match u with | .agg ⟨b⟩=>lK a b | _=>false
 | .tuple ⟨a⟩,u=>match u with | .tuple ⟨b⟩=>lK a b | _=>false
 | .func f ⟨a⟩ ⟨b⟩,u=>match u with
  | .func g ⟨c⟩ ⟨d⟩=>(match f,g with | .func f,.func g=>Nat.beq f g | .yield l,.yield m=>Nat.beq l m | _,_=>false)&&lK a c&&lK b d
  | _=>false
 | _,_=>false
def lK:List Value→List Value→Bool
 | [],l=>match l with | []=>true | _=>false
 | a::l,m=>match m with | b::m=>uz a b&&lK l m | []=>false
end
mutual
theorem iU:∀ {v u:Value},uz v u=true→v=u
 | .bool a,u,h=>by cases u<;>simp [uz] at h;rw [h]
 | .int j a,u,h=>by cases u<;>simp [uz] at h;rw [h.1,h.2]
 | .string a,u,h=>by cases u<;>simp [uz] at h;rw [h]
 | .nilFunc,u,h=>by cases u<;>simp [uz] at h;rfl
 | .nilIface,u,h=>by cases u<;>simp [uz] at h;rfl
 | .pointer a,u,h=>by cases u<;>simp [uz] at h;rw [Qp h]
 | .slice a n c,u,h=>by
  cases u<;>simp [uz] at h
  rw [Qp h.1.1,h.1.2,h.2]
 | .map a,u,h=>by cases u<;>simp [uz] at h;rw [DV h]
 | .chan a,u,h=>by cases u<;>simp [uz] at h;rw [DV h]
 | .agg ⟨a⟩,u,h=>by
  cases u<;>simp only [uz] at h<;>try (cases h;done)
  rw [fM h]
 | .tuple ⟨a⟩,u,h=>by
  cases u<;>simp only [uz] at h<;>try (cases h;done)
  rw [fM h]
 | .func f ⟨a⟩ ⟨b⟩,u,h=>by
  cases u<;>simp only [uz] at h<;>try (cases h;done)
  rename_i g c d
  simp only [Bool.and_eq_true] at h
  obtain ⟨⟨h1,h2⟩,h3⟩:=h
  rw [fM h2,fM h3]
  split at h1
  ·rw [Nat.eq_of_beq_eq_true h1]
  ·rw [Nat.eq_of_beq_eq_true h1]
  ·cases h1
 | .float _ _,_,h=>by simp [uz] at h
 | .complex _ _ _,_,h=>by simp [uz] at h
 | .iface _ _,_,h=>by simp [uz] at h
theorem fM:∀ {l m:List Value},lK l m=true→l=m
 | [],m,h=>by cases m<;>simp [lK] at h;rfl
 | a::l,m,h=>by
  cases m with
  | nil=>simp [lK] at h
  | cons b m=>
   simp only [lK,Bool.and_eq_true] at h
   rw [iU h.1,fM h.2]
end
def JM:Ob→Ob→Bool
 | .cells c e s,.cells d f t=>lK c d&&Nat.beq e f&&SK s t
 | .cells c e _,.shut d f=>lK c d&&Nat.beq e f
 | .shut c e,.shut d f=>lK c d&&Nat.beq e f
 | _,_=>false
theorem uV {o p:Ob} (h:JM o p=true):o.Le p:=by
 unfold JM at h
 split at h
 ·simp only [Bool.and_eq_true] at h
  rw [fM h.1.1,Nat.eq_of_beq_eq_true h.1.2,DV h.2]
  exact .inl rfl
 ·simp only [Bool.and_eq_true] at h
  rw [fM h.1,Nat.eq_of_beq_eq_true h.2]
  exact .inr ⟨_,_,_,rfl,rfl⟩
 ·simp only [Bool.and_eq_true] at h
  rw [fM h.1,Nat.eq_of_beq_eq_true h.2]
  exact .inl rfl
 ·cases h
structure Entry where
 f:FuncId
 args:List Value
 kn:List (Nat × Ob)
 v:Value
def Entry.ok (P:Program) (e:Entry):Prop:=Quiet P e.f e.args e.kn e.v∧∀ p∈e.kn,p.1<top
def YN (e:Entry) (f:FuncId) (args:List Value) (h:H):Bool:=
 match Nat.beq e.f f with
 | true=>match lK e.args args with
  | true=>e.kn.all fun p=>match h.get p.1 with
   | some o=>JM o p.2
   | none=>false
  | false=>false
 | false=>false
def Vt (f:FuncId) (args:List Value) (h:H):List Entry→Option (Option (Value × H))
 | []=>none
 | e::es=>match YN e f args h with
  | true=>some (some (e.v,h))
  | false=>Vt f args h es
def uQ (es:List Entry):FuncId→List Value→H→Option (Option (Value × H)):=fun f args h=>Vt f args h es
theorem mV {es:List Entry} (h:∀ e∈es,e.ok P):df P (uQ es):=by
 intro f args h0 v h' hf
 unfold uQ at hf
 induction es with
 | nil=>cases hf
 | cons e es ih=>
  simp only [Vt] at hf
  split at hf
  ·rename_i hfit
   simp only [Option.some.injEq,Prod.mk.injEq] at hf
   obtain ⟨rfl,rfl⟩:=hf
   unfold YN at hfit
   split at hfit
   ·rename_i h1
    split at hfit
    ·rename_i h2
     obtain ⟨hq,ht⟩:=h e (by simp)
     obtain rfl:=Nat.eq_of_beq_eq_true h1
     obtain rfl:=fM h2
     exact hq.does ht fun p hp=>by
      have:=List.all_eq_true.1 hfit p hp
      split at this
      ·rename_i o ho;exact ⟨o,ho,uV this⟩
      ·cases this
    ·cases hfit
   ·cases hfit
  ·exact ih (fun e he=>h e (by simp [he])) hf
end Ev
end Go
end
end
section
section
namespace Go
namespace Ev
variable {P:Program} {inv:Iv}
theorem Ef {ρ ρ':aY} {h:H} {w w':World} (s:Stp ρ h w ρ' h w') {x:Nat} {o:Obj} (hx:w.heap[x]? = some o):w'.heap[x]? = some o:=by
 obtain ⟨l,e,p,_⟩:=s.log
 have e:h.log=l++h.log:=e
 have:l=[]:=by
  have:=congrArg List.length e
  simp at this
  exact this
 subst this
 exact p x o hx fun b k hb=>by simp at hb
def puts (j:Nat) (l:List Oper):Bool:=l.any fun o=>match o.dst with
 | some d=>Nat.beq d j
 | none=>false
theorem sV {j:Nat} {o:Oper} {l:List Oper} (h:puts j (o::l)=false):o.dst≠some j∧puts j l=false:=by
 unfold puts at *
 simp only [List.any_cons,Bool.or_eq_false_iff] at h
 refine ⟨fun e=>?_,h.2⟩
 have:=h.1
 rw [e] at this
 simp at this
theorem BD (a:Act) {d:Option Tmp} {j:Nat} (h:d≠some j) (v:Value):(a.put d v).tmps[j]? = a.tmps[j]?:=by
 cases d with
 | none=>rfl
 | some d=>
  simp only [Act.put]
  rw [Array.getElem?_setIfInBounds_ne (fun e=>h (by rw [e]))]
def Kept (P:Program) (ρ:aY) (n:Nat) (h:H) (w:World) (m:Machine) (b:Frame) (a:Act) (k:List Item) (cs:List Frame) (t':T Value) (h':H) (l:List Oper):Prop:=
 ∃ ρ' a' w',Steps P m (lone (b.atR a' k) cs w')∧a'.defers=a.defers∧Stp ρ h w ρ' h' w'∧HR ρ' h' w'∧TR ρ' n t' a'.tmps∧∀ j,puts j l=false→a'.tmps[j]? = a.tmps[j]?
theorem ES (hI:iH P inv) {ck:Ck} {n:Nat} {ops:Array Oper} {rest:List Nat} {b:Frame} {k:List Item} {cs:List Frame}:∀ {l:List Oper} {i:Nat} {t t':T Value} {h h':H},(∀ j,j<l.length→ops[i+j]? = l[j]?)→jm P inv ck n ops.toList l t h=some (t',h') →
  ∀ {ρ:aY} {a:Act} {w:World},TR ρ n t a.tmps→HR ρ h w→gK ρ h.next h'.next→Kept P ρ n h w (lone (b.atR a (.inRegion ops (List.range' i l.length++rest)::k)) cs w) b a (.inRegion ops rest::k) cs t' h' l
 | [],i,t,t',h,h',hl,e,ρ,a,w,ht,hr,hu=>by
  cases e
  exact ⟨ρ,a,w,show Steps P (lone (b.atR a (.inRegion ops rest::k)) cs w) _ from .refl _ _,rfl,.refl ρ h w w rfl,hr,ht,fun _ _=>rfl⟩
 | o::l,i,t,t',h,h',hl,e,ρ,a,w,ht,hr,hu=>by
  have ho:ops[i]? = some o:=by simpa using hl 0 (by simp)
  have hl':∀ j,j<l.length→ops[i+1+j]? = l[j]?:=fun j hj=>by
   have:=hl (j+1) (by simp;omega)
   rw [show i+(j+1)=i+1+j by omega] at this
   simpa using this
  have hrange:List.range' i (o::l).length++rest=i::(List.range' (i+1) l.length++rest):=by simp [List.range'_succ]
  rw [hrange]
  simp only [jm] at e
  split at e
  ·rename_i hw
   have hwant:=dP ht hw
   split at e
   case h_2=>cases e
   split at e
   ·rename_i v h1 e1
    split at e
    ·rename_i t1 e2
     have n1:=qo hI.next e1
     have n2:=dX hI.next e
     obtain ⟨ρ1,v',w1,s1,s2,s3,s4⟩:=Oi (b:=b) (k:=k) (cs:=cs) hI e1 ho hwant ht hr (hu.sub (Nat.le_refl _) n2) (List.range' (i+1) l.length++rest)
     have ht1:TR ρ1 n t1 (a.put o.dst v').tmps:=(ht.mono s2.le).put e2 s4
     obtain ⟨ρ2,a2,w2,q1,q2,q3,q4,q5,q6⟩:=ES hI hl' e ht1 s3 ((hu.sub n1 (Nat.le_refl _)).step s2 (Nat.le_refl _))
     exact ⟨ρ2,a2,w2,s1.trans q1,by rw [q2,put_defers],s2.trans q3,q4,q5,fun j hj=>by
      obtain ⟨g1,g2⟩:=sV hj
      rw [q6 j g2,BD a g1]⟩
    ·cases e
   ·cases e
  ·rename_i hw
   have hwant:=dP ht hw
   split at e
   case h_2=>cases e
   split at e
   ·rename_i t1 e2
    have ht1:TR ρ n t1 (a.put o.dst undef).tmps:=ht.put e2 ja
    have hs:=stepR_op_skip (P:=P) (b:=b) (a:=a) (k:=k) (cs:=cs) (w:=w) (ops:=ops) (i:=i) (rest:=List.range' (i+1) l.length++rest) (by rw [ho];simpa using hwant)
    rw [ho] at hs
    obtain ⟨ρ2,a2,w2,q1,q2,q3,q4,q5,q6⟩:=ES hI hl' e ht1 hr hu
    exact ⟨ρ2,a2,w2,.head hs q1,by rw [q2,put_defers],q3,q4,q5,fun j hj=>by
     obtain ⟨g1,g2⟩:=sV hj
     rw [q6 j g2,BD a g1]⟩
   ·cases e
  ·cases e
def rD (P:Program) (inv:Iv) (n:Nat) (all l:List Oper) (t:T Value) (h:H):Option (T Value):=
 match jm P inv RN n all l t ⟨h.t,h.next,[]⟩ with
 | some (t',h')=>match h'.log,Nat.beq h'.next h.next with
  | [],true=>some t'
  | _,_=>none
 | none=>none
theorem zD (hI:iH P inv) {n:Nat} {ops:Array Oper} {rest:List Nat} {b:Frame} {k:List Item} {cs:List Frame} {l:List Oper} {i:Nat} {t t':T Value} {h:H} (hl:∀ j,j<l.length→ops[i+j]? = l[j]?) (e:rD P inv n ops.toList l t h=some t')
  {ρ:aY} {a:Act} {w:World} (ht:TR ρ n t a.tmps) (hr:HR ρ h w):Kept P ρ n h w (lone (b.atR a (.inRegion ops (List.range' i l.length++rest)::k)) cs w) b a (.inRegion ops rest::k) cs t' h l:=by
 unfold rD at e
 split at e
 case h_2=>cases e
 rename_i t1 h1 eo
 split at e
 case h_2=>cases e
 rename_i el en
 cases e
 have en:=Nat.eq_of_beq_eq_true en
 have hr0:HR ρ ⟨h.t,h.next,[]⟩ w:=⟨hr.dH,hr.ob,hr.inj⟩
 obtain ⟨ρ',a',w',q1,q2,q3,q4,q5,q6⟩:=ES (b:=b) (k:=k) (cs:=cs) (rest:=rest) hI hl eo ht hr0 (fun x h1 h2=>by
  have h1:h.next≤x:=h1
  omega)
 obtain ⟨s1,s2,s3,s4,l0,m1,m2,m3,m4,m5,m6⟩:=q3
 have hl0:l0=[]:=by rw [el] at m1;simpa using m1.symm
 subst hl0
 have hget:∀ y,h1.get y=h.get y:=fun y=>m5 y (by simp)
 refine ⟨ρ',a',w',q1,q2,⟨s1,Nat.le_refl _,fun y hy hx=>s3 y hy (by rw [en];exact hx),s4,[],rfl,m2,m3,fun _ hb=>by simp at hb,fun _ _=>rfl,m6⟩,⟨q4.dH,fun y o hy=>q4.ob y o (by rw [hget];exact hy),fun y c x k l hy hc hx hz=>q4.inj y c x k l (by rw [hget];exact hy) (by rw [hget];exact hc) hx hz⟩,q5,q6⟩
theorem lh (hI:iH P inv) {n id:Nat} {ops:Array Oper} {b:Frame} {k:List Item} {cs:List Frame} {t t':T Value} {h:H} (e:rD P inv n ops.toList ops.toList t h=some t')
  {ρ:aY} {a:Act} {w:World} (ht:TR ρ n t a.tmps) (hr:HR ρ h w):Kept P ρ n h w (lone (b.atR a (.code (.region id ops false)::k)) cs w) b a k cs t' h ops.toList:=by
 obtain ⟨ρ',a',w',q1,q2⟩:=zD (b:=b) (k:=k) (cs:=cs) (rest:=[]) hI (l:=ops.toList) (i:=0) (fun j _=>by simp) e ht hr
 refine ⟨ρ',a',w',.head stepR_region ?_,q2⟩
 have e1:List.range' 0 ops.toList.length++[]=List.range ops.size:=by rw [List.range_eq_range'];simp
 rw [e1] at q1
 exact q1.trans (.one stepR_region_end)
def clear (t:T Value) (l:List Oper):Bool:=l.all fun o=>match o.dst with
 | some j=>(match t.get j with | none=>true | some _=>false)
 | none=>true
theorem MH {t:T Value} {l:List Oper} (h:clear t l=true) {j:Nat} {v:Value} (hj:t.get j=some v):puts j l=false:=by
 unfold puts
 rw [List.any_eq_false]
 intro o ho
 have:=List.all_eq_true.1 h o ho
 split
 ·rename_i d hd
  rw [hd] at this
  simp only at this
  intro e
  obtain rfl:=Nat.eq_of_beq_eq_true e
  rw [hj] at this
  cases this
 ·simp
theorem TR.keep {ρ ρ':aY} {n:Nat} {t:T Value} {a a':Array Value} {l:List Oper} (h:TR ρ n t a) (hle:Le ρ ρ') (hs:a'.size=n) (hk:∀ j,puts j l=false→a'[j]? = a[j]?) (hc:clear t l=true):TR ρ' n t a':=
 ⟨hs,fun j v hj=>by
  obtain ⟨v',q1,q2⟩:=h.get j v hj
  exact ⟨v',by rw [hk j (MH hc hj)];exact q1,q2.mono hle⟩⟩
end Ev
end Go
end
end
