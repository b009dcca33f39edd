import Derived.RangeFuncBound
import Derived.Shelf.Abstract
import Derived.OwnWalkIn
import Derived.TacticsInMore
import Derived.LoopNIn
import Derived.LoopIn
import Derived.Test.YtjilljfmaknihaaGreatA22
import Derived.Test.YtjilljfmaknihaaGreatA20
import Derived.Test.YtjilljfmaknihaaGreatA01
set_option linter.all false
set_option maxHeartbeats 16000000
set_option maxRecDepth 100000
namespace Go
def nz:=@Go.Oper.semAt_some
def xC:=@Go.World.cell?_of_block
def Bo:=@Go.RowKit.Below.heap_setCell
def F8:=@Go.callsIn_of_wp
end Go
namespace Go.Proofs
open Go.RowKit
section
attribute [local go_sem] nz
def ag9{F:Fence}(hd:F.depth=none)(k):F.room k:=fun d h=>by rw[hd] at h;cases h
def acs{F}(hd:F.depth=none){m}(m'){P l args W R}(h:YieldAt F m P l args W R):YieldAt F m' P l args W R:=by have⟨fn,tmps,assign,body,hy,hR⟩:=h;exact⟨fn,tmps,assign,body,hy,hR.1,fun c cs _=>hR.2 c cs (ag9 hd _)⟩
def aet(s:Sg):ae:=.agg #[.int .i64 s.e,.int .i64 s.n,.int .i64 (s.o 0),.int .i64 (s.o 1),.int .i64 (s.o 2)]
def ptr(b:Nat):ae:=.pointer (some ⟨b,0,none⟩)
structure FB where
 c:Nat
 y:Nat
 s:Nat
 f:Nat
 l:Nat
structure FM(B:FB)(W H F:Int)(ac aw:aB Addr)(kc nw kw:Nat)(su:ae)(cs:List (Int×Int))(w:ay)(s:Sg):Prop where
 hc:w.heap[B.c]?=some (.cells #[.int .i64 W,.int .i64 H,.int .i64 F,.slice ac cs.length kc,.slice aw nw kw,su] 81 (0,0))
 hy:w.heap[B.y]?=some (.cells #[.func (.yield B.l) #[] #[]] 166 (0,0))
 hf:w.heap[B.f]?=some (.cells #[.func (.func 128) #[] #[.pointer (some ⟨B.c,0,none⟩),.pointer (some ⟨B.y,0,none⟩),.pointer (some ⟨B.s,0,none⟩),.pointer (some ⟨B.f,0,none⟩)]] 103 (0,0))
 hs:w.heap[B.s]?=some (.cells #[.int .i64 s.e,.int .i64 s.n,.int .i64 (s.o 0),.int .i64 (s.o 1),.int .i64 (s.o 2)] 89 (0,0))
 rd:Lp w ac cs
def ah{w:ay}{b:Nat}{c:Array ae}{t:aZ}{fr:Nat×Nat}(h:w.heap[b]?=some (.cells c t fr))(j:Nat):w.cell? ⟨b,j,none⟩=c[j]?:=by simp[World.cell?,h]
def iJ{w:ay}{b:Nat}{c:Array ae}{t:aZ}(h:w.heap[b]?=some (.cells c t (0,0)))(j:Nat):w.frozen? ⟨b,j,none⟩=false:=by simp[World.frozen?,h]
structure Off(X:Nat->Prop)(B:FB)(ac:aB Addr):Prop where
 c:¬X B.c
 y:¬X B.y
 s:¬X B.s
 f:¬X B.f
 ac:∀b o,ac=some ⟨b,o,none⟩->¬X b
def Lp.keep{X A C a}{cs:List (Int×Int)}(h:Lp A a cs)(hX:∀b o,a=some ⟨b,o,none⟩->¬X b)(hk:qL X A C):Lp C a cs:=fun i hi=>by
 have⟨b,o,h1,h2,h3,h4⟩:=h i hi;have hcell:∀(j:Nat) (v:ae),A.cell? ⟨b,j,none⟩=some v->C.cell? ⟨b,j,none⟩=some v:=fun j v hv=>by
  have hh:=hv;simp only[World.cell?] at hv⊢;cases hb:A.heap[b]? with
  |none=>rw[hb] at hv;simp at hv
  |some x=>
   rw[hb] at hv;cases x with
   |cells c e fr=>
   rw[hk.2 b _ (hX b o h1) hb rfl];exact hv
   |_=>simp at hv
 exact⟨b,o,h1,bT h2 hk.1,hcell _ _ h3,hcell _ _ h4⟩
section
variable{B:FB}{W H F:Int}{ac aw:aB Addr}{kc nw kw:Nat}{su:ae}{cs:List (Int×Int)}
theorem FM.keep{X A C}{s:Sg}(h:FM B W H F ac aw kc nw kw su cs A s)(hX:Off X B ac)(hk:qL X A C):FM B W H F ac aw kc nw kw su cs C s:=⟨hk.2 _ _ hX.c h.hc rfl,hk.2 _ _ hX.y h.hy rfl,hk.2 _ _ hX.f h.hf rfl,hk.2 _ _ hX.s h.hs rfl,h.rd.keep hX.ac hk⟩
structure Dif(B:FB)(ac:aB Addr):Prop where
 sc:B.c≠B.s
 sy:B.y≠B.s
 sf:B.f≠B.s
 sa:∀b o,ac=some ⟨b,o,none⟩->b≠B.s
theorem FM.set{A s}(h:FM B W H F ac aw kc nw kw su cs A s)(hd:Dif B ac){i}(hi:i<3)(v):FM B W H F ac aw kc nw kw su cs (A.setCell ⟨B.s,2+i,none⟩ (.int .i64 v)) ⟨s.e,s.n,Cb s.o i v⟩:=by
 have ho:∀k,k≠B.s->(A.setCell ⟨B.s,2+i,none⟩ (.int .i64 v)).heap[k]?=A.heap[k]?:=fun k hk=>Bo _ _ _ _ hk;refine⟨(ho _ hd.sc).trans h.hc,(ho _ hd.sy).trans h.hy,(ho _ hd.sf).trans h.hf,?_,fun j hj=>?_⟩
 .simp only[World.setCell,PI,je,h.hs,Option.map_some]
  match i,hi with
  |0,_=>rfl
  |1,_=>rfl
  |2,_=>rfl
 have⟨b,o,h1,h2,h3,h4⟩:=h.rd j hj;have hb:=ho b (hd.sa b o h1);exact⟨b,o,h1,by simp[World.setCell];exact h2,(xC hb).trans h3,(xC hb).trans h4⟩
end
end
section
attribute [local go_sem] nz
def akm(J Jx:List Sg->ay->Prop)(FMs:ay->Sg->Prop)(pre l:List Sg)(i m:Nat)(s:Sg)(e:Ending)(W':ay):Prop:=(e=.returned (.bool true)/\J (pre++l) W'/\∃s',FMs W' s'/\U8 i m s s')\/(e=.returned (.bool false)/\∃q,q <+: l/\Jx (pre++q) W')
def Tryz.fill(B)(W H F)(ac aw)(kc nw kw)(su)(cs)(X)(hX:Off X B ac)(hD:Dif B ac)(J Jx)(hm:cs.length<=3)(hcs:∀r∈cs,-3<=r.1/\r.1<=r.2/\r.2<=3)(hJ:∀pre A j v,J pre A->J pre (A.setCell ⟨B.s,j,none⟩ v))(hY:∀m pre s W1,J pre W1->YieldAt Fence.wide m Tryz.prog B.l #[aet s] W1 fun e W'=>(e=.returned (.bool true)/\J (pre++[s]) W'/\qL X W1 W')\/(e=.returned (.bool false)/\Jx (pre++[s]) W'))(rs:List (Int×Int)):∀(i n:Nat) (pre:List Sg) (s:Sg) (w:ay),cs.drop i=rs->i+rs.length=cs.length->FM B W H F ac aw kc nw kw su cs w s->J pre w->CallsIn Fence.wide n Tryz.prog 128 #[.int .i64 i,.pointer (some ⟨B.c,0,none⟩),.pointer (some ⟨B.y,0,none⟩),.pointer (some ⟨B.s,0,none⟩),.pointer (some ⟨B.f,0,none⟩)] w (akm J Jx (FM B W H F ac aw kc nw kw su cs) pre (lJ rs i s) i cs.length s):=by
 induction rs with
 |nil=>
  intro i n pre s w hdrop hlen hM hj;have⟨fn,tmps,assign,body,hy,hR⟩:=hY (n-1) pre s w hj;have hi:i=cs.length:=by simpa using hlen
  have c3:w.cell? ⟨B.c,3,none⟩=some (.slice ac cs.length kc):=ah hM.hc 3;have yy:w.cell? ⟨B.y,0,none⟩=some (.func (.yield B.l) #[] #[]):=ah hM.hy 0;have s0:w.cell? ⟨B.s,0,none⟩=some (.int .i64 s.e):=ah hM.hs 0;have s1:w.cell? ⟨B.s,1,none⟩=some (.int .i64 s.n):=ah hM.hs 1;have s2:w.cell? ⟨B.s,2,none⟩=some (.int .i64 (s.o 0)):=ah hM.hs 2;have s3:w.cell? ⟨B.s,3,none⟩=some (.int .i64 (s.o 1)):=ah hM.hs 3;have s4:w.cell? ⟨B.s,4,none⟩=some (.int .i64 (s.o 2)):=ah hM.hs 4;have HM:=az hM;clear hM hdrop hlen hJ hY;subst hi;unfold aet at hy;refine F8 Tryz.func128 rfl trivial ?_ rfl;simp only[Tryz.ntmps128,oq,List.length_cons,List.length_nil,Nat.reduceAdd,Nat.reduceSub,xG,Array.replicate_zero,uo,xE,List.nil_append,List.cons_append];gi_wp2;refine⟨fun h=>(by cases h),?_⟩;refine hR.mono ?_;clear hR;rintro e W2 (⟨rfl,hJ2,hk2⟩|⟨rfl,hx2⟩)
  .gi_wp2
   go_ret;exact .inl ⟨rfl,hJ2,_,HM.out.keep hX hk2,U8.refl _ _ _⟩
  gi_wp2;go_ret;exact .inr ⟨rfl,[s],List.prefix_refl _,hx2⟩
 |cons r rs ih=>
  intro i n pre s w hdrop hlen hM hj;have hlt:i<cs.length:=by simp at hlen;omega
  have hr:cs[i]=r:=by have:=List.getElem_drop (xs:=cs) (i:=i) (j:=0) (h:=by simp;omega);simp only[Nat.add_zero] at this;rw[<-this];simp[hdrop]
  have hb:=hcs r (hr▸xJ hlt);have⟨hb1,hb2,hb3⟩:=hb;have hi3:i<3:=by omega
  have c3:w.cell? ⟨B.c,3,none⟩=some (.slice ac cs.length kc):=ah hM.hc 3;have⟨bC,oC,hac,hbC,e0,e1⟩:=hM.rd i hlt;rw[hr] at e0 e1;have HM:=az hM;have hdrop':cs.drop (i+1)=rs:=by rw[<-List.tail_drop,hdrop];rfl
  have hlen':i+1+rs.length=cs.length:=by simp at hlen;omega
  have HI:=fun n pre s w=>ih (i+1) n pre s w hdrop' hlen';clear ih hdrop hdrop' hM hY;have HD:=az hlen;clear hlen;cases hac;refine F8 Tryz.func128 rfl trivial ?_ rfl;simp only[Tryz.ntmps128,oq,List.length_cons,List.length_nil,Nat.reduceAdd,Nat.reduceSub,xG,Array.replicate_zero,uo,xE,List.nil_append,List.cons_append];gi_wp2;have pz:((i:Int)==(cs.length:Int))=false:=by assumption
  rw[pz];clear pz;gi_loopw [7] (fun v wr=>∃(k:Nat) (s':Sg),k<=(r.2-r.1+1).toNat/\v=.int .i64 (r.1+k)/\FM B W H F (some ⟨bC,oC,none⟩) aw kc nw kw su cs wr s'/\U8 i cs.length s s'/\J (pre++xh rs i s r.1 k) wr) (fun v _=>(r.2+1-intOf v).toNat);case atStart=>exact⟨0,s,gy _,by simp,HM.out,U8.refl _ _ _,by simpa[xh] using hj⟩
  case round=>
   clear HM hj c3 e0 e1;obtain⟨k,s',hk,rfl,hM,hag,hj⟩:=hrel;have c3:wr.cell? ⟨B.c,3,none⟩=some (.slice (some ⟨bC,oC,none⟩) cs.length kc):=ah hM.hc 3;have⟨b',o',hbo,hbC',e0,e1⟩:=hM.rd i hlt;rw[hr] at e0 e1;cases hbo;have HM:=az hM;have HJ:=az hj;have HA:=az hag;by_cases hlk:k<(r.2-r.1+1).toNat
   .have hle:r.1+(k:Int)<=r.2:=by omega
    have hsi:wr.cell? ⟨B.s,2+i,none⟩=some (.int .i64 (s'.o i)):=by
     rw[ah hM.hs]
     match i,hi3 with
     |0,_|1,_|2,_=>rfl
    have hsf:=iJ hM.hs (2+i);have hM2:=hM.set hD hi3 (r.1+k);have hff:(wr.setCell ⟨B.s,2+i,none⟩ (.int .i64 (r.1+k))).cell? ⟨B.f,0,none⟩=some (.func (.func 128) #[] #[.pointer (some ⟨B.c,0,none⟩),.pointer (some ⟨B.y,0,none⟩),.pointer (some ⟨B.s,0,none⟩),.pointer (some ⟨B.f,0,none⟩)]):=ah hM2.hf 0;have hcall:=HI (n-1) _ _ _ hM2 (hJ _ _ (2+i) (.int .i64 (r.1+k)) hj);have hcast:((i+1:Nat):Int)=(i:Int)+1:=rfl;rw[hcast] at hcall;have HC:=az hcall;clear hcall hcast hM2 hag hj hM;gi_wp2;refine⟨trivial,fun h=>(by cases h),?_⟩;refine HC.out.mono ?_;clear HC hff;rintro e W2 (⟨rfl,hJ2,s2,hM2,hA2⟩|⟨rfl,q,hq,hx2⟩)
    .have hA3:=U8.aik hlt hA2;have hk1:J (pre++xh rs i s r.1 (k+1)) W2:=by
      rw[KJ,<-Lj,<-Eo (by have:=HD.out;simp at this;omega) (HA.out.upd hlt (r.1+k))];exact hJ2
     gi_wp2;go_roundw;case rel=>exact⟨k+1,s2,hlk,by go_num,hM2,HA.out.trans hA3,hk1⟩
     case measure=>simp[intOf];omega
    gi_wp2;go_ret;refine .inr ⟨rfl,xh rs i s r.1 k++q,?_,by rw[<-Lj];exact hx2⟩;exact Yz r rs i s hlk (by rw[<-Eo (by have:=HD.out;simp at this;omega) (HA.out.upd hlt (r.1+k))];exact hq)
   have hk':k=(r.2-r.1+1).toNat:=by omega
   have hgt:r.2<r.1+(k:Int):=by omega
   gi_wp2;go_ret;exact .inl ⟨rfl,by rw[<-OT r rs i s hk'];exact HJ.out,_,HM.out,HA.out⟩
end
end Go.Proofs
