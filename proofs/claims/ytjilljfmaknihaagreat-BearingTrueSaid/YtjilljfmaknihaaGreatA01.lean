import Derived.Test.YtjilljfmaknihaaGreatA00
set_option linter.all false
namespace Go
structure Sg where
 e:Int
 n:Int
 o:Nat->Int
def Cb(o:Nat->Int)(i:Nat)(v:Int):Nat->Int:=fun j=>if j=i then v else o j
def rng(a b:Int):List Int:=(List.range (b-a+1).toNat).map fun(k:Nat)=>a+(k:Int)
def lJ:List (Int×Int)->Nat->Sg->List Sg
|[],_,s=>[s]
|r::rs,i,s=>(rng r.1 r.2).flatMap fun v=>lJ rs (i+1) ⟨s.e,s.n,Cb s.o i v⟩
structure U8(i m:Nat)(s s':Sg):Prop where
 e:s'.e=s.e
 n:s'.n=s.n
 o:∀j,j<i\/m<=j->s'.o j=s.o j
def U8.refl(i m)(s):U8 i m s s:=⟨rfl,rfl,fun _ _=>rfl⟩
def U8.trans{i m s s' t}(h:U8 i m s s')(h':U8 i m s' t):U8 i m s t:=⟨h'.e.trans h.e,h'.n.trans h.n,fun j hj=>(h'.o j hj).trans (h.o j hj)⟩
def U8.upd{i m s s'}(h:U8 i m s s')(hi:i<m)(v):U8 (i+1) m ⟨s.e,s.n,Cb s.o i v⟩ ⟨s'.e,s'.n,Cb s'.o i v⟩:=⟨h.e,h.n,fun j hj=>by
 unfold Cb;by_cases e:j=i
 .simp[e]
 simp only[e,BF];exact h.o j (by omega)⟩
def U8.aik{i m s t v}(hi:i<m)(h:U8 (i+1) m ⟨s.e,s.n,Cb s.o i v⟩ t):U8 i m s t:=⟨h.e,h.n,fun j hj=>by have:=h.o j (by omega);rw[this];unfold Cb;exact aU (by omega)⟩
def Eo:∀{rs:List (Int×Int)} {i m:Nat} {s s':Sg},m=i+rs.length->U8 i m s s'->lJ rs i s'=lJ rs i s
|[],i,m,⟨e,n,o⟩,⟨e',n',o'⟩,hm,h=>by have h1:e'=e:=h.e;have h2:n'=n:=h.n;have h3:o'=o:=funext fun j=>h.o j (by simp at hm;omega);rw[h1,h2,h3]
|r::rs,i,m,s,s',hm,h=>by
 unfold lJ;have hi:i<m:=by simp at hm;omega
 have:(fun v=>lJ rs (i+1) ⟨s'.e,s'.n,Cb s'.o i v⟩)=fun v=>lJ rs (i+1) ⟨s.e,s.n,Cb s.o i v⟩:=funext fun v=>Eo (by simp at hm;omega) (h.upd hi v);rw[this]
def xh(rs:List (Int×Int))(i:Nat)(s:Sg)(a:Int)(k:Nat):List Sg:=((List.range k).map fun(j:Nat)=>a+(j:Int)).flatMap fun v=>lJ rs (i+1) ⟨s.e,s.n,Cb s.o i v⟩
def KJ(rs)(i)(s)(a)(k):xh rs i s a (k+1)=xh rs i s a k++lJ rs (i+1) ⟨s.e,s.n,Cb s.o i (a+k)⟩:=by unfold xh;rw[Y3,F5,ae5];simp
def OT(r)(rs)(i)(s){k}(hk:k=(r.2-r.1+1).toNat):xh rs i s r.1 k=lJ (r::rs) i s:=by subst hk;rfl
def Yz(r)(rs)(i)(s){k:Nat}(hk:k<(r.2-r.1+1).toNat){q:List Sg}(hq:q <+: lJ rs (i+1) ⟨s.e,s.n,Cb s.o i (r.1+k)⟩):xh rs i s r.1 k++q <+: lJ (r::rs) i s:=by
 have h1:xh rs i s r.1 (k+1) <+: lJ (r::rs) i s:=by
  rw[<-OT r rs i s rfl];unfold xh;have:List.range (k+1) <+: List.range (r.2-r.1+1).toNat:=by have⟨t,ht⟩:=Nat.exists_eq_add_of_le (show k+1<=(r.2-r.1+1).toNat from hk);rw[ht,ae4 (n:=k+1)];exact aje _ _
  have⟨t,ht⟩:=this;rw[<-ht,F5,ae5];exact aje _ _
 rw[KJ] at h1;exact((ajd _).2 hq).trans h1
def cols(cs:List (Int×Int))(r:Nat)(c:Nat):List Sg:=(List.range c).flatMap fun(x:Nat)=>lJ cs 0 ⟨(x:Int),(r:Int),fun _=>0⟩
def rows(cs:List (Int×Int))(W:Nat)(r:Nat):List Sg:=(List.range r).flatMap fun(y:Nat)=>cols cs y W
def RJ(cs)(r c):cols cs r (c+1)=cols cs r c++lJ cs 0 ⟨c,r,fun _=>0⟩:=by unfold cols;rw[Y3,ae5];simp
def QL(cs)(W r):rows cs W (r+1)=rows cs W r++cols cs r W:=by unfold rows;rw[Y3,ae5];simp
end Go
