import Derived.Lib.SmallJoins
import Derived.Conc.LeavingOf
import Derived.Test.YtjilljfmaknihaaGreatRows
import Derived.Test.YtjilljfmaknihaaGreatA52
set_option linter.all false
namespace Go
def DK:=@Go.DataW.trod_int
def Y4:=@Go.World.cells?_some
end Go
namespace Go.Proofs.Tryz
set_option maxRecDepth 100000
open Go.Deep Go.ChangeShapes Go.WideShapes Go.Ren Go.Ev
section
variable{Hh:Type}{enc:aZ×ae->Hh}{W:ay}{base:Nat}{spare:Nat->Bool}{held:Bool}{b0:Nat}
theorem fld{P t fs fuel}{cs:List ae}{x:DataW Hh×List MemPlace}(ht:P.underlying t=some (.struct fs))(h:DataW.trod enc P W base spare held fuel t cs=some x):cs.length=P.cellsOf t/\∃n,∀(i:Nat) (f:Field),fs[i]?=some f->∃y,DataW.trod enc P W base spare held n f.type ((cs.drop f.offset).take (P.cellsOf f.type))=some y:=by
 have⟨xs,n,_,_,hl,hlen,hf⟩:=DataW.trod_struct ht h;refine⟨hl,n,fun i f hi=>?_⟩;have hi':i<xs.length:=by rw[hlen];exact(aP.1 hi).1
 exact⟨xs[i],by rw[hf i f hi,oV hi']⟩
def fI(nm:String)(o b:Nat):Field:={name:=nm,type:=3,offset:=o,embedded:=false,tag := "",pkgPath := "",byteOffset:=b}
theorem u3:prog.underlying 3=some (.int .i64):=by kernel_rfl
theorem u4:prog.underlying 4=some .bool:=by kernel_rfl
theorem u27:prog.underlying 27=some (.struct #[fI "East" 0 0,fI "North" 1 8]):=by kernel_rfl
theorem u43:prog.underlying 43=some (.struct #[fI "Least" 0 0,fI "Most" 1 8]):=by kernel_rfl
theorem u41:prog.underlying 41=some (.struct #[{name := "At",type:=27,offset:=0,embedded:=false,tag := "",pkgPath := "",byteOffset:=0},fI "Bearing" 2 16,fI "Compass" 3 24,{name := "Sure",type:=4,offset:=4,embedded:=false,tag := "",pkgPath := "",byteOffset:=32}]):=by kernel_rfl
theorem u22:prog.underlying 22=some (.slice 43):=by kernel_rfl
theorem u23:prog.underlying 23=some (.slice 41):=by kernel_rfl
theorem u28:prog.underlying 28=some (.slice 3):=by kernel_rfl
theorem u25:prog.underlying 25=some (.struct #[fI "Wide" 0 0,fI "High" 1 8,fI "False" 2 16,{name := "Compasses",type:=22,offset:=3,embedded:=false,tag := "",pkgPath := "",byteOffset:=24},{name := "Witnesses",type:=23,offset:=4,embedded:=false,tag := "",pkgPath := "",byteOffset:=48}]):=by kernel_rfl
theorem u30:prog.underlying 30=some (.struct #[{name := "At",type:=27,offset:=0,embedded:=false,tag := "",pkgPath := "",byteOffset:=0},{name := "Offs",type:=28,offset:=2,embedded:=false,tag := "",pkgPath := "",byteOffset:=16},{name := "False",type:=28,offset:=3,embedded:=false,tag := "",pkgPath := "",byteOffset:=40}]):=by kernel_rfl
theorem c3:prog.cellsOf 3=1:=by kernel_rfl
theorem c4:prog.cellsOf 4=1:=by kernel_rfl
theorem c27:prog.cellsOf 27=2:=by kernel_rfl
theorem c43:prog.cellsOf 43=2:=by kernel_rfl
theorem c41:prog.cellsOf 41=5:=by kernel_rfl
theorem c22:prog.cellsOf 22=1:=by kernel_rfl
theorem c23:prog.cellsOf 23=1:=by kernel_rfl
theorem c28:prog.cellsOf 28=1:=by kernel_rfl
theorem c25:prog.cellsOf 25=5:=by kernel_rfl
theorem c30:prog.cellsOf 30=4:=by kernel_rfl
theorem GN{t a b fuel cs x}(ht:prog.underlying t=some (.struct #[fI a 0 0,fI b 1 8]))(hc:prog.cellsOf t=2)(h:DataW.trod enc prog W base spare held fuel t cs=some x):∃m n,cs=[.int .i64 m,.int .i64 n]:=by
 have⟨hl,k,hf⟩:=fld ht h;rw[hc] at hl
 match cs,hl with
 |[v0,v1],_=>have⟨_,h0⟩:=hf 0 (fI a 0 0) rfl;have⟨_,h1⟩:=hf 1 (fI b 1 8) rfl;simp only[fI,c3,Uz,List.take_succ_cons,List.take_zero,Uy] at h0 h1;have⟨m,hm,_⟩:=DK u3 h0;have⟨n,hn,_⟩:=DK u3 h1;exact⟨m,n,by simp at hm hn;rw[hm,hn]⟩
theorem af2{fuel cs}{x:DataW Hh×List MemPlace}(h:DataW.trod enc prog W base spare held fuel 41 cs=some x):∃y:IZ,cs=[.int .i64 y.e,.int .i64 y.n,.int .i64 y.b,.int .i64 y.c,.bool y.s]:=by
 have⟨hl,k,hf⟩:=fld u41 h;rw[c41] at hl
 match cs,hl with
 |[v0,v1,v2,v3,v4],_=>have⟨_,h0⟩:=hf 0 {name := "At",type:=27,offset:=0,embedded:=false,tag := "",pkgPath := "",byteOffset:=0} rfl;have⟨_,h1⟩:=hf 1 (fI "Bearing" 2 16) rfl;have⟨_,h2⟩:=hf 2 (fI "Compass" 3 24) rfl;have⟨_,h3⟩:=hf 3 {name := "Sure",type:=4,offset:=4,embedded:=false,tag := "",pkgPath := "",byteOffset:=32} rfl;simp only[fI,c3,c4,c27,Uz,List.take_succ_cons,List.take_zero,Uy] at h0 h1 h2 h3;have⟨e,n,he⟩:=GN u27 c27 h0;have⟨b,hb,_⟩:=DK u3 h1;have⟨c,hc,_⟩:=DK u3 h2;have⟨s,hs,_⟩:=DataW.trod_bool u4 h3;exact⟨⟨e,n,b,c,s⟩,by simp at he hb hc hs;simp[he,hb,hc,hs]⟩
theorem Nc{t e r b0 a l k}(ht:prog.underlying t=some (.slice e))(h:Cell.okWide prog W r b0 t (.slice (some a) l k)):a.spot=none/\a.block∈enum W:=by
 unfold Cell.okWide at h;rw[ht] at h;dsimp only at h;unfold Cell.ok at h;rw[ht] at h;dsimp only at h;have⟨_,_,_,h1,row,cells,h2,_⟩:=h;refine⟨h1,wR.2 ?_⟩;unfold World.shape? at h2;split at h2
 .rename_i c e f hh;exact⟨(aP.1 hh).1,by unfold IA;rw[hh];rfl⟩
 cases h2
theorem JF{a:Addr}(h:a.spot=none)(i):a.add i=⟨a.block,a.off+i,none⟩:=by
 cases a with
 |mk b o s=>cases h;unfold Addr.add;split<;>simp_all
theorem X4{fuel v}{x:DataW Hh×List MemPlace}(hv:Cell.okWide prog W .any b0 22 v)(h:DataW.trod enc prog W 0 (fun _=>true) true fuel 22 [v]=some x):∃(a:aB Addr) (cs:List (Int×Int)) (k:Nat),v=.slice a cs.length k/\cs.length<=maxLen/\Lp W a cs/\∀y,a=some y->y.block∈enum W:=by
 rcases open_slice u22 h with⟨h0,_⟩|⟨a,len,cap,m,n,D,Pl,h0,_,hl,hm,hmm,_,hx⟩
 .simp at h0;subst h0;exact⟨none,[],0,rfl,gy _,fun i hi=>absurd hi (Gl _),fun y hy=>by cases hy⟩
 simp at h0;subst h0;have⟨hs,hb⟩:=Nc u22 hv;rw[c43] at hx;simp only[je] at hmm;have⟨V,hV⟩:=choose_lt (α:=Int×Int) (p:=fun i p=>W.cell? ⟨a.block,a.off+i*2,none⟩=some (.int .i64 p.1)/\W.cell? ⟨a.block,a.off+i*2+1,none⟩=some (.int .i64 p.2)) (n:=len) (fun i hi=>by have⟨cs',h1,h2⟩:=hx i (by omega);obtain⟨p,q,rfl⟩:=GN u43 c43 h2;have⟨_,_,h3⟩:=Y4 h1;have k0:=h3 0 (by omega);have k1:=h3 1 (by omega);rw[JF hs,JF rfl] at k0 k1;exact⟨(p,q),by simpa using k0,by simpa using k1⟩)
 refine⟨some a,(List.range len).map V,cap,by simp,by simp;omega,fun i hi=>?_,fun y hy=>by cases hy;exact hb⟩;have hi':i<len:=by simpa using hi
 have⟨g1,g2⟩:=hV i hi';refine⟨a.block,a.off,by cases a;cases hs;rfl,(wR.1 hb).1,by simpa using g1,by simpa using g2⟩
theorem abt{fuel v}{x:DataW Hh×List MemPlace}(hv:Cell.okWide prog W .any b0 23 v)(h:DataW.trod enc prog W 0 (fun _=>true) true fuel 23 [v]=some x):∃(a:aB Addr) (cs:List IZ) (k:Nat),v=.slice a cs.length k/\cs.length<=maxLen/\LM W a cs/\∀y,a=some y->y.block∈enum W:=by
 rcases open_slice u23 h with⟨h0,_⟩|⟨a,len,cap,m,n,D,Pl,h0,_,hl,hm,hmm,_,hx⟩
 .simp at h0;subst h0;exact⟨none,[],0,rfl,gy _,fun i hi=>absurd hi (Gl _),fun y hy=>by cases hy⟩
 simp at h0;subst h0;have⟨hs,hb⟩:=Nc u23 hv;rw[c41] at hx;simp only[je] at hmm
 haveI:Inhabited IZ:=⟨⟨0,0,0,0,false⟩⟩
 have⟨V,hV⟩:=choose_lt (α:=IZ) (p:=fun i p=>W.cell? ⟨a.block,a.off+i*5,none⟩=some (.int .i64 p.e)/\W.cell? ⟨a.block,a.off+i*5+1,none⟩=some (.int .i64 p.n)/\W.cell? ⟨a.block,a.off+i*5+2,none⟩=some (.int .i64 p.b)/\W.cell? ⟨a.block,a.off+i*5+3,none⟩=some (.int .i64 p.c)/\W.cell? ⟨a.block,a.off+i*5+4,none⟩=some (.bool p.s)) (n:=len) (fun i hi=>by have⟨cs',h1,h2⟩:=hx i (by omega);obtain⟨y,rfl⟩:=af2 h2;have⟨_,_,h3⟩:=Y4 h1;have k0:=h3 0 (by omega);have k1:=h3 1 (by omega);have k2:=h3 2 (by omega);have k3:=h3 3 (by omega);have k4:=h3 4 (by omega);rw[JF hs,JF rfl] at k0 k1 k2 k3 k4;exact⟨y,by simpa using k0,by simpa using k1,by simpa using k2,by simpa using k3,by simpa using k4⟩)
 refine⟨some a,(List.range len).map V,cap,by simp,by simp;omega,fun i hi=>?_,fun y hy=>by cases hy;exact hb⟩;have hi':i<len:=by simpa using hi
 have⟨g1,g2,g3,g4,g5⟩:=hV i hi';refine⟨a.block,a.off,by cases a;cases hs;rfl,(wR.1 hb).1,by simpa using g1,by simpa using g2,by simpa using g3,by simpa using g4,by simpa using g5⟩
theorem QY{fuel v}{x:DataW Hh×List MemPlace}(hv:Cell.okWide prog W .any b0 28 v)(h:DataW.trod enc prog W 0 (fun _=>true) true fuel 28 [v]=some x):∃(a:aB Addr) (cs:List Int) (k:Nat),v=.slice a cs.length k/\cs.length<=maxLen/\ED W a cs/\∀y,a=some y->y.block∈enum W:=by
 rcases open_slice u28 h with⟨h0,_⟩|⟨a,len,cap,m,n,D,Pl,h0,_,hl,hm,hmm,_,hx⟩
 .simp at h0;subst h0;exact⟨none,[],0,rfl,gy _,fun i hi=>absurd hi (Gl _),fun y hy=>by cases hy⟩
 simp at h0;subst h0;have⟨hs,hb⟩:=Nc u28 hv;rw[c3] at hx;simp only[je] at hmm;have⟨V,hV⟩:=choose_lt (α:=Int) (p:=fun i p=>W.cell? ⟨a.block,a.off+i,none⟩=some (.int .i64 p)) (n:=len) (fun i hi=>by have⟨cs',h1,h2⟩:=hx i (by omega);obtain⟨p,rfl,_⟩:=DK u3 h2;have⟨_,_,h3⟩:=Y4 h1;have k0:=h3 0 (by omega);rw[JF hs,JF rfl] at k0;exact⟨p,by simpa using k0⟩)
 refine⟨some a,(List.range len).map V,cap,by simp,by simp;omega,fun i hi=>?_,fun y hy=>by cases hy;exact hb⟩;have hi':i<len:=by simpa using hi
 have g1:=hV i hi';refine⟨a.block,a.off,by cases a;cases hs;rfl,(wR.1 hb).1,by simpa using g1⟩
end
section
variable{Hh:Type}{enc:aZ×ae->Hh}{W:ay}{b0:Nat}
theorem G7{t ts cs i u v}(hts:prog.cellTypes prog.depth t=some ts)(h:Row.okWide prog W .any b0 t cs)(hn:i<ts.length)(hu:ts[i]?=some u)(hv:cs[i]?=some v):Cell.okWide prog W .any b0 u v:=by have⟨ts',h1,_,h2⟩:=h;rw[hts] at h1;obtain rfl:=aN h1;have⟨u',h3,h4⟩:=h2 i v hv;rw[Nat.mod_eq_of_lt hn,hu] at h3;obtain rfl:=aN h3;exact h4
theorem SN{t fs v}(ht:prog.underlying t=some (.struct fs))(h:Value.okWide prog W .any b0 t v):∃cs,v=.agg cs/\cs.size=prog.cellsOf t/\Row.okWide prog W .any b0 t cs:=by unfold Value.okWide at h;rw[ht] at h;exact h
theorem akx:prog.cellTypes prog.depth 25=some [3,3,3,22,23]:=by kernel_rfl
theorem akw:prog.cellTypes prog.depth 30=some [3,3,28,28]:=by kernel_rfl
theorem ahN{v d p}(hv:Value.okWide prog W .any b0 27 v)(h:DataW.Trod enc prog W 0 (fun _=>true) true 27 v d p):∃m n,v=.agg #[.int .i64 m,.int .i64 n]:=by obtain⟨cs,rfl,_,_⟩:=SN u27 hv;have⟨fuel,hf⟩:=h;have⟨m,n,e⟩:=GN u27 c27 hf;refine⟨m,n,?_⟩;have:cs.toList=[.int .i64 m,.int .i64 n]:=e;rw[<-this]
theorem akL{v d p}(hv:Value.okWide prog W .any b0 25 v)(h:DataW.Trod enc prog W 0 (fun _=>true) true 25 v d p):∃(w hh f:Int) (a:aB Addr) (cs:List (Int×Int)) (k:Nat) (b:aB Addr) (ws:List IZ) (l:Nat),v=.agg #[.int .i64 w,.int .i64 hh,.int .i64 f,.slice a cs.length k,.slice b ws.length l]/\cs.length<=maxLen/\ws.length<=maxLen/\Lp W a cs/\LM W b ws/\(∀y,a=some y->y.block∈enum W)/\∀y,b=some y->y.block∈enum W:=by
 obtain⟨cs,rfl,hsz,hrow⟩:=SN u25 hv;have⟨fuel,hf⟩:=h;have⟨hl,n,hfl⟩:=fld u25 hf;have hsz':cs.toList.length=5:=by rw[Array.length_toList,hsz,c25]
 have⟨l⟩:=cs
 match l,hsz' with
 |[v0,v1,v2,v3,v4],_=>have⟨_,h0⟩:=hfl 0 (fI "Wide" 0 0) rfl;have⟨_,h1⟩:=hfl 1 (fI "High" 1 8) rfl;have⟨_,h2⟩:=hfl 2 (fI "False" 2 16) rfl;have⟨_,h3⟩:=hfl 3 {name := "Compasses",type:=22,offset:=3,embedded:=false,tag := "",pkgPath := "",byteOffset:=24} rfl;have⟨_,h4⟩:=hfl 4 {name := "Witnesses",type:=23,offset:=4,embedded:=false,tag := "",pkgPath := "",byteOffset:=48} rfl;simp only[fI,c3,c22,c23,Value.cells,Uz,List.take_succ_cons,List.take_zero,Uy] at h0 h1 h2 h3 h4;have⟨x0,e0,_⟩:=DK u3 h0;have⟨x1,e1,_⟩:=DK u3 h1;have⟨x2,e2,_⟩:=DK u3 h2;have⟨a,cs,k,e3,b3,r3,m3⟩:=X4 (G7 akx (v:=v3) hrow (i:=3) (by decide) rfl rfl) h3;have⟨b,ws,l,e4,b4,r4,m4⟩:=abt (G7 akx (v:=v4) hrow (i:=4) (by decide) rfl rfl) h4;refine⟨x0,x1,x2,a,cs,k,b,ws,l,?_,b3,b4,r3,r4,m3,m4⟩;simp only[Gw,mi] at e0 e1 e2;rw[e0,e1,e2,e3,e4]
theorem akK{v d p}(hv:Value.okWide prog W .any b0 30 v)(h:DataW.Trod enc prog W 0 (fun _=>true) true 30 v d p):∃(m n:Int) (a:aB Addr) (os:List Int) (k:Nat) (b:aB Addr) (fs:List Int) (l:Nat),v=.agg #[.int .i64 m,.int .i64 n,.slice a os.length k,.slice b fs.length l]/\os.length<=maxLen/\fs.length<=maxLen/\ED W a os/\ED W b fs/\(∀y,a=some y->y.block∈enum W)/\∀y,b=some y->y.block∈enum W:=by
 obtain⟨cs,rfl,hsz,hrow⟩:=SN u30 hv;have⟨fuel,hf⟩:=h;have⟨hl,n,hfl⟩:=fld u30 hf;have hsz':cs.toList.length=4:=by rw[Array.length_toList,hsz,c30]
 have⟨l⟩:=cs
 match l,hsz' with
 |[v0,v1,v2,v3],_=>have⟨_,h0⟩:=hfl 0 {name := "At",type:=27,offset:=0,embedded:=false,tag := "",pkgPath := "",byteOffset:=0} rfl;have⟨_,h1⟩:=hfl 1 {name := "Offs",type:=28,offset:=2,embedded:=false,tag := "",pkgPath := "",byteOffset:=16} rfl;have⟨_,h2⟩:=hfl 2 {name := "False",type:=28,offset:=3,embedded:=false,tag := "",pkgPath := "",byteOffset:=40} rfl;simp only[c27,c28,Value.cells,Uz,List.take_succ_cons,List.take_zero,Uy] at h0 h1 h2;have⟨x0,x1,e0⟩:=GN u27 c27 h0;have⟨a,cs,k,e3,b3,r3,m3⟩:=QY (G7 akw (v:=v2) hrow (i:=2) (by decide) rfl rfl) h1;have⟨b,ws,l,e4,b4,r4,m4⟩:=QY (G7 akw (v:=v3) hrow (i:=3) (by decide) rfl rfl) h2;refine⟨x0,x1,a,cs,k,b,ws,l,?_,b3,b4,r3,r4,m3,m4⟩;simp only[Gw,mi] at e0;rw[e0.1,e0.2,e3,e4]
end
end Go.Proofs.Tryz
