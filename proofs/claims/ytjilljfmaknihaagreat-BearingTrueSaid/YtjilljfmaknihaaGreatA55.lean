/- The law BearingTrue returns true for every input, in any memory and on every schedule, and leaves all as it was. No condition. -/
import Derived.Test.YtjilljfmaknihaaGreatA53
import Derived.Test.YtjilljfmaknihaaGreatA54
set_option linter.all false
namespace Go.Proofs.YtjilljfmaknihaaGreat
set_option maxRecDepth 100000
open Go Go.ChangeShapes Go.WideShapes Go.ChangeAt Go.RowKit Go.Conc
def acz:ownKnob Tryz.prog.godebug=none:=by kernel_rfl
def aaR:laidOutB Tryz.prog=true:=by kernel_rfl
def Hg{H:Type}{enc W w' t}{v:ae}{d:DataW H}{p:List MemPlace}{sp:Nat->Bool}(hr:Tryz.prog.readableRec t=true)(ht:t<Tryz.prog.types.size)(h:DataW.Trod enc Tryz.prog W 0 (fun _=>true) true t v d p)(hlt:∀x∈p,x.block<W.heap.size)(hk:∀i,i<W.heap.size->w'.heap[i]?=W.heap[i]?)(hs:∀x∈p,sp x.block=true):DataW.Trod enc Tryz.prog w' 0 sp true t v d p:=
 WideElems.Trod_stays aaR hr ht h (fun x hx=>by
  have:=hk _ (hlt x hx);cases x with
  |cell b off=>simp only[World.sameAt,World.cell?];rw[show w'.heap[b]?=W.heap[b]? from this]
  |map b=>exact this) hs
def Vm(os)(started:os.Started)(H:Type)(enc:aZ×ae->H):ReturnsInLeavingWide {} Tryz.checked os 3 .any (Rows.bearingTrueSpec.pre6 enc Tryz.prog Tryz.f3 Rows.bearingTrueRow.domain false) (Rows.bearingTrueSpec.post enc Tryz.prog Tryz.f3 false true false false):=by
 refine returnsInLeavingWide_of_change_sized (C:=Tryz.checked) acz started Tryz.func3
  (ChangeSpec.witness6 (enc:=enc) (C:=Tryz.checked) false ⟨#[],#[.agg #[.int .i64 0,.int .i64 0,.int .i64 0,.slice none 0 0,.slice none 0 0],.agg #[.int .i64 0,.int .i64 0],.agg #[.int .i64 0,.int .i64 0],.agg #[.int .i64 0,.int .i64 0,.slice none 0 0,.slice none 0 0]],[]⟩ 8 (by kernel_rfl) (by kernel_rfl) (by kernel_rfl) (by kernel_rfl)) ?_;intro W base args ds gs before hval0 hW hcnd0 _ _;clear hcnd0;have hval:∀(j:Nat) t v,Tryz.f3.params[j]?=some t->args[j]?=some v->Value.okWide Tryz.prog W .any base t v:=hval0;have hW':=hW;obtain⟨p,q,hA0,hV,rfl,_,_⟩:=hW;have hA:DataW.TrodAll enc Tryz.prog W 0 (fun _=>true) true Tryz.f3.params.toList args.toList ds p:=hA0;have hlt:=DataW.TrodAll.lt hA;rw[Tryz.params3] at hA hval;obtain⟨v0,v1,v2,v3,d0,d1,d2,d3,p0,p1,p2,p3,rfl,rfl,rfl,h0,h1,h2,h3⟩:=trodAll_four hA
 obtain⟨rfl,rfl⟩:=trodVars_none hV;obtain⟨wd,hh,fl,ac,cs,kc,aw,ws,kw,rfl,hmc,hmw,r1,r2,m1,m2⟩:=Tryz.akL (hval 0 25 v0 rfl rfl) h0;obtain⟨e1,n1,rfl⟩:=Tryz.ahN (hval 1 27 v1 rfl rfl) h1;obtain⟨e2,n2,rfl⟩:=Tryz.ahN (hval 2 27 v2 rfl rfl) h2;obtain⟨e,n,ao,ol,ko,af,fs,kf,rfl,hmo,hmf,r3,r4,m3,m4⟩:=Tryz.akK (hval 3 30 v3 rfl rfl) h3;clear hA0 hval0;have⟨M,last,oc,w',t',k1,k2,k3,k4⟩:=Tryz.adB wd hh fl e1 n1 e2 n2 e n ac aw ao af kc kw ko kf cs ws ol fs W hmc hmw hmo hmf r1 r2 r3 r4 m1 m2 m3 m4;refine⟨M,last,oc,w',t',k1,k2,k3,k4.mono fun v hp=>?_⟩;obtain⟨rfl,hk,hkb⟩:=hp;refine⟨_,_,_,[],p0++(p1++(p2++p3)),[],hW',?_,?_,rfl,hkb _,fun h=>by cases h⟩
 .exact trodAll_mk1 (shut_bool Tryz.underlying4 true)
 exact⟨_,_,Hg (by kernel_rfl) (by decide +kernel) h0 (fun x hx=>hlt x (by simp[hx])) hk (fun x hx=>by simpa using hlt x (by simp[hx])),⟨_,_,Hg (by kernel_rfl) (by decide +kernel) h1 (fun x hx=>hlt x (by simp[hx])) hk (fun x hx=>by simpa using hlt x (by simp[hx])),⟨_,_,Hg (by kernel_rfl) (by decide +kernel) h2 (fun x hx=>hlt x (by simp[hx])) hk (fun x hx=>by simpa using hlt x (by simp[hx])),trodAll_mk1 (Hg (by kernel_rfl) (by decide +kernel) h3 (fun x hx=>hlt x (by simp[hx])) hk (fun x hx=>by simpa using hlt x (by simp[hx]))),rfl⟩,rfl⟩,rfl⟩
theorem true_holds:Rows.BearingTrueSaid:=
 OpenClaim.holds_of_wide_leaving 3 Tryz.f3 rfl rfl rfl rfl rfl rfl rfl ⟨rfl,rfl,rfl,rfl,rfl⟩ rfl rfl rfl rfl rfl (by kernel_rfl) Tryz.func3 (by kernel_rfl)
  (BB (by kernel_rfl)) (by unfold Func.isWrapper;first|(rw[aY (by decide +kernel)];kernel_rfl)|(rw[aU (by decide +kernel)];exact⟨rfl,rfl⟩))
  (fun os started H enc _=>Vm os started H enc)
#print axioms true_holds
end Go.Proofs.YtjilljfmaknihaaGreat
