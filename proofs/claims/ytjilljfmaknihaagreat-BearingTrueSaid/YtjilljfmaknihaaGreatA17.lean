import Derived.Test.YtjilljfmaknihaaGreatA15
set_option linter.all false
set_option maxHeartbeats 8000000
namespace Go.Proofs
open Go.RowKit
def gI(l:List Int)(k:Nat):Int:=l.getD k 0
def akj{l k}(h:k<l.length):gI l k=l[k]:=by unfold gI;simp[h]
def vC(n:Int)(l:List Int)(k:Nat):Int:=if jW (gI l k) 0 (n-1) then(if 0<k/\gI l k<=gI l (k-1) then 7 else 0) else 6
def Uu(n:Int)(l:List Int):Int:=jr (vC n l) (List.range l.length)
def XL{n k}(h:k<=n):(List.range n).take k=List.range k:=by rw[List.take_range,Nat.min_eq_left h]
def AA{k}:List.range (k+1)=List.range k++[k]:=Y3
def vJ{f n k}(h:k<n)(h0:jr f (List.range k)=0)(hx:f k≠0):jr f (List.range n)=f k:=by have:=pW (f:=f) (l:=List.range n) (k:=k) (by simpa using h) (by rw[XL (JX h)];exact h0) (by simpa using hx);simpa using this
def ED.cell{w a l}(h:ED w a l){k}(hk:k<l.length):∃b o,a=some ⟨b,o,none⟩/\b<w.heap.size/\w.cell? ⟨b,o+k,none⟩=some (.int .i64 (gI l k)):=by rw[akj hk];exact h k hk
def Tryz.afX(n)(al)(kl)(l)(w)(hn:-1000<=n)(hn2:n<=1000)(hm:l.length<=9223372036854775807)(hl:ED w al l):Calls Tryz.prog 86 #[.slice al l.length kl,.int .i64 n] w fun e w'=>e=.returned (.int .i64 (Uu n l))/\Fin w w':=by
 have HL:=az hl;clear hl;go_enter Tryz.func86,Tryz.ntmps86;go_wp2;go_loopw [5] (fun i wr=>∃k:Nat,k<=l.length/\i=.int .i64 k/\Fin w wr/\jr (vC n l) (List.range k)=0) (fun i _=>l.length-(intOf i).toNat);case atStart=>exact⟨0,gy _,rfl,Fin.refl _,rfl⟩
 case round=>
  obtain⟨k,hk,rfl,hF1,hp⟩:=hrel;by_cases hlt:k<l.length
  .obtain⟨b,o,rfl,hb,e0⟩:=(HL.out.fin hF1).cell hlt;have HP:=az hp;clear hp;by_cases hk0:0<k
   .have⟨b',o',hbo,_,e1⟩:=(HL.out.fin hF1).cell (show k-1<l.length by omega);cases hbo
    go_wp2_with (go_at_call 24;refine(Tryz.oG _ _ _ _).mono ?_;rintro e w' ⟨rfl,rfl⟩)
    .have p1:(!jW (gI l k) 0 (n-1))=true:=by assumption
     have hv:vC n l k=6:=by unfold vC;simp at p1;simp[p1]
     go_ret;exact⟨dZ (by unfold Uu;rw[vJ hlt HP.out (by rw[hv];decide),hv]),hF1⟩
    have p1:(!jW (gI l k) 0 (n-1))=false:=by assumption
    have P1:=az p1;clear p1;have g1:decide (0<(k:Int))=true:=by simp;omega
    have g2:IntKind.i64.wrap (↑k-1) = ↑k-1:=IntWalk.i64_in _ (by omega);have g3:(0:Int) <= ↑k-1:=by omega
    have g4:((k:Int)-1).toNat=k-1:=by omega
    go_quiet (fail);clear g1 g2 g3 g4;go_wp2
    .have p2:gI l k<=gI l (k-1):=by assumption
     have hv:vC n l k=7:=by have:=P1.out;unfold vC;simp at this;simp[this,hk0,p2]
     go_ret;exact⟨dZ (by unfold Uu;rw[vJ hlt HP.out (by rw[hv];decide),hv]),hF1.drewN _⟩
    have p2:gI l (k-1)<gI l k:=by assumption
    have hv:vC n l k=0:=by have:=P1.out;unfold vC;simp at this;simp[this,hk0];omega
    go_roundw;case rel=>exact⟨k+1,by omega,by go_num,hF1.drewN _,by rw[AA];exact mY HP.out hv⟩
    case measure=>simp[intOf];omega
   go_wp2_with (go_at_call 24;refine(Tryz.oG _ _ _ _).mono ?_;rintro e w' ⟨rfl,rfl⟩)
   .have p1:(!jW (gI l k) 0 (n-1))=true:=by assumption
    have hv:vC n l k=6:=by unfold vC;simp at p1;simp[p1]
    go_ret;exact⟨dZ (by unfold Uu;rw[vJ hlt HP.out (by rw[hv];decide),hv]),hF1⟩
   have p1:(!jW (gI l k) 0 (n-1))=false:=by assumption
   have P1:=az p1;clear p1;have g1:decide (0<(k:Int))=false:=by simp;omega
   go_quiet (fail);clear g1;go_wp2;have hv:vC n l k=0:=by have:=P1.out;unfold vC;simp at this;simp[this,hk0]
   go_roundw;case rel=>exact⟨k+1,by omega,by go_num,hF1.drewN _,by rw[AA];exact mY HP.out hv⟩
   case measure=>simp[intOf];omega
  have hk':k=l.length:=by omega
  subst hk';have HP:=az hp;clear hp;go_wp2;go_ret;exact⟨dZ HP.out.symm,hF1⟩
def Tryz.aeB(n)(al)(kl)(l)(w)(hn:-1000<=n)(hn2:n<=1000)(hm:l.length<=9223372036854775807)(hl:ED w al l):Calls Tryz.prog 121 #[.slice al l.length kl,.int .i64 0,.int .i64 (n-1)] w fun e w'=>e=.returned (.int .i64 (Uu n l))/\Fin w w':=by
 have HL:=az hl;clear hl;go_enter Tryz.func121,Tryz.ntmps121;go_wp2;go_loopw [11] (fun i wr=>∃k,k<=l.length/\i=.int .i64 k/\Fin w wr/\jr (vC n l) (List.range k)=0) (fun i _=>l.length-(intOf i).toNat);case atStart=>exact⟨0,gy _,rfl,Fin.refl _,rfl⟩
 case round=>
  obtain⟨k,hk,rfl,hF1,hp⟩:=hrel;by_cases hlt:k<l.length
  .obtain⟨b,o,rfl,hb,e0⟩:=(HL.out.fin hF1).cell hlt;have HP:=az hp;clear hp;by_cases hk0:0<k
   .have⟨b',o',hbo,_,e1⟩:=(HL.out.fin hF1).cell (show k-1<l.length by omega);cases hbo
    go_wp2_with (go_at_call 76;refine(Tryz.within' _ _ _ _).mono ?_;rintro e w' ⟨rfl,rfl⟩)
    .have p1:(!jW (gI l k) 0 (n-1))=true:=by assumption
     have hv:vC n l k=6:=by unfold vC;simp at p1;simp[p1]
     go_ret;exact⟨dZ (by unfold Uu;rw[vJ hlt HP.out (by rw[hv];decide),hv]),hF1⟩
    .have p1:(!jW (gI l k) 0 (n-1))=false:=by assumption
     have p2:gI l k<=gI l (k-1):=by assumption
     have hv:vC n l k=7:=by unfold vC;simp at p1;simp[p1,hk0,p2]
     go_ret;exact⟨dZ (by unfold Uu;rw[vJ hlt HP.out (by rw[hv];decide),hv]),hF1⟩
    have p1:(!jW (gI l k) 0 (n-1))=false:=by assumption
    have p2:gI l (k-1)<gI l k:=by assumption
    have hv:vC n l k=0:=by unfold vC;simp at p1;simp[p1,hk0];omega
    go_roundw;case rel=>exact⟨k+1,by omega,by go_num,hF1,by rw[AA];exact mY HP.out hv⟩
    case measure=>simp[intOf];omega
   go_wp2_with (go_at_call 76;refine(Tryz.within' _ _ _ _).mono ?_;rintro e w' ⟨rfl,rfl⟩)
   .have p1:(!jW (gI l k) 0 (n-1))=true:=by assumption
    have hv:vC n l k=6:=by unfold vC;simp at p1;simp[p1]
    go_ret;exact⟨dZ (by unfold Uu;rw[vJ hlt HP.out (by rw[hv];decide),hv]),hF1⟩
   have p1:(!jW (gI l k) 0 (n-1))=false:=by assumption
   have hv:vC n l k=0:=by unfold vC;simp at p1;simp[p1,hk0]
   go_roundw;case rel=>exact⟨k+1,by omega,by go_num,hF1,by rw[AA];exact mY HP.out hv⟩
   case measure=>simp[intOf];omega
  have hk':k=l.length:=by omega
  subst hk';have HP:=az hp;clear hp;go_wp2;go_ret;exact⟨dZ HP.out.symm,hF1⟩
def Tryz.aeA(n)(al)(kl)(l)(w)(hn:-1000<=n)(hn2:n<=1000)(hm:l.length<=9223372036854775807)(hl:ED w al l):Calls Tryz.prog 81 #[.slice al l.length kl,.int .i64 n] w fun e w'=>e=.returned (.int .i64 (Uu n l))/\Fin w w':=by go_enter Tryz.func81,Tryz.ntmps81;go_wp2_with (go_at_call 121;refine(Tryz.aeB n al kl l _ hn hn2 hm hl).mono ?_;rintro e w' ⟨rfl,hF2⟩);go_ret;exact⟨rfl,hF2⟩
def ZP(W H e n:Int):Bool:=jW e 0 (W-1)&&jW n 0 (H-1)
def Tryz.akh(W H F e n)(ac aw)(nc kc nw kw)(w)(hW:2<=W)(hW2:W<=7)(hH:2<=H)(hH2:H<=7):Calls Tryz.prog 68 #[.agg #[.int .i64 W,.int .i64 H,.int .i64 F,.slice ac nc kc,.slice aw nw kw],.agg #[.int .i64 e,.int .i64 n]] w fun x w'=>x=.returned (.bool (ZP W H e n))/\Fin w w':=by
 go_enter Tryz.func68,Tryz.ntmps68;go_wp2_with (go_at_call 76;refine(Tryz.within' _ _ _ _).mono ?_;rintro e w' ⟨rfl,rfl⟩);all_goals go_ret
 all_goals exact⟨oz (by unfold ZP;simp_all),((Fin.refl _).alloc _ _).alloc _ _⟩
def Tryz.rOn(W H F e n)(ac aw)(nc kc nw kw)(w)(hW:2<=W)(hW2:W<=7)(hH:2<=H)(hH2:H<=7):Calls Tryz.prog 85 #[.agg #[.int .i64 W,.int .i64 H,.int .i64 F,.slice ac nc kc,.slice aw nw kw],.agg #[.int .i64 e,.int .i64 n]] w fun x w'=>x=.returned (.bool (ZP W H e n))/\Fin w w':=by
 go_enter Tryz.func85,Tryz.ntmps85;go_wp2_with (go_at_call 24;refine(Tryz.oG _ _ _ _).mono ?_;rintro e w' ⟨rfl,rfl⟩);all_goals go_ret
 all_goals exact⟨oz (by unfold ZP;simp_all),((Fin.refl _).alloc _ _).alloc _ _⟩
def hasB(l:List Int)(x:Int):Bool:=l.contains x
def agA{l x k}(h:k<l.length)(e:(l[k]==x)=true):hasB l x=true:=Gq.2 (eq_of_beq e▸xJ h)
def abN{l x y}(h:hasB l x=false)(e:(y==x)=false):hasB (l++[y]) x=false:=by
 unfold hasB at *;have:y≠x:=by simpa using e
 simp_all
 exact fun hh=>this hh.symm
def Tryz.ac5(x)(al)(kl)(l)(w)(hm:l.length<=9223372036854775807)(hl:ED w al l):Calls Tryz.prog 87 #[.slice al l.length kl,.int .i64 x] w fun e w'=>e=.returned (.bool (hasB l x))/\w'=w:=by
 have HL:=az hl;clear hl;go_enter Tryz.func87,Tryz.ntmps87;go_wp2;go_loop [5] (fun i=>∃k,k<=l.length/\i=.int .i64 k/\hasB (l.take k) x=false) (fun i=>l.length-(intOf i).toNat);case atStart=>exact⟨0,gy _,rfl,rfl⟩
 case round=>
  obtain⟨k,hk,rfl,hp⟩:=hrel;have HP:=az hp;clear hp;by_cases hlt:k<l.length
  .obtain⟨b,o,rfl,hb,e0⟩:=HL.out k hlt;have HS:=az (Gj hlt)
   go_wp2
   .have p1:(l[k]==x)=true:=by assumption
    go_ret;exact⟨oz (agA hlt p1).symm,rfl⟩
   have p1:(l[k]==x)=false:=by assumption
   go_round;case rel=>exact⟨k+1,by omega,by go_num,by rw[HS.out];exact abN HP.out p1⟩
   case measure=>simp[intOf];omega
  have hk':k=l.length:=by omega
  subst hk';go_wp2;go_ret;exact⟨oz (by have:=HP.out;rw[Bz] at this;exact this.symm),rfl⟩
def ahG{w w1 v0 v1 v2 v3 v4 u0 u1 u2 u3}{t s:aZ}(h:(w.alloc (.cells #[v0,v1,v2,v3,v4] t)).alloc (.cells #[u0,u1,u2,u3] s)=w1):(w1.cell? ⟨w.heap.size,0,none⟩=some v0/\w1.cell? ⟨w.heap.size,1,none⟩=some v1/\w1.cell? ⟨w.heap.size,2,none⟩=some v2/\w1.cell? ⟨w.heap.size,3,none⟩=some v3/\w1.cell? ⟨w.heap.size,4,none⟩=some v4)/\(w1.cell? ⟨w.heap.size+1,0,none⟩=some u0/\w1.cell? ⟨w.heap.size+1,1,none⟩=some u1/\w1.cell? ⟨w.heap.size+1,2,none⟩=some u2/\w1.cell? ⟨w.heap.size+1,3,none⟩=some u3)/\w1.heap.size=w.heap.size+2/\Fin w w1:=by
 have⟨a0,a1,a2,a3,a4,hz⟩:=W9 (rfl:w.alloc (.cells #[v0,v1,v2,v3,v4] t)=_);subst h;have hF:Fin (w.alloc (.cells #[v0,v1,v2,v3,v4] t)) ((w.alloc (.cells #[v0,v1,v2,v3,v4] t)).alloc (.cells #[u0,u1,u2,u3] s)):=(Fin.refl _).alloc _ _;have hz':w.heap.size<(w.alloc (.cells #[v0,v1,v2,v3,v4] t)).heap.size:=by omega
 refine⟨⟨((bD hF).1 _ 0 hz').trans a0,((bD hF).1 _ 1 hz').trans a1,((bD hF).1 _ 2 hz').trans a2,((bD hF).1 _ 3 hz').trans a3,((bD hF).1 _ 4 hz').trans a4⟩,⟨?_,?_,?_,?_⟩,by simp,((Fin.refl _).alloc _ _).alloc _ _⟩;all_goals (rw[<-hz,Za];rfl)
def TD(x:Int):Bool:=jW x (-3) 3
def xQ(W H:Int)(nc nw:Nat)(e n:Int)(os fs:List Int):Int:=if ZP W H e n then(if os.length=nc then(if os.all TD then Uu nw fs else 1) else 2) else 6
def Tryz.NI(W H F e n)(ac aw ao af)(nc kc nw kw ko kf)(os fs)(w)(hW:2<=W)(hW2:W<=7)(hH:2<=H)(hH2:H<=7)(hnc:nc<=3)(hnw:nw<=5)(hmo:os.length<=9223372036854775807)(hmf:fs.length<=9223372036854775807)(ho:ED w ao os)(hf:ED w af fs):Calls Tryz.prog 47 #[.agg #[.int .i64 W,.int .i64 H,.int .i64 F,.slice ac nc kc,.slice aw nw kw],.agg #[.int .i64 e,.int .i64 n,.slice ao os.length ko,.slice af fs.length kf]] w fun x w'=>x=.returned (.int .i64 (xQ W H nc nw e n os fs))/\Fin w w':=by
 have HO:=az ho;have HF:=az hf;clear ho hf;go_enter Tryz.func47,Tryz.ntmps47;go_wp2_with fail;obtain⟨w1,hw1⟩:∃w1,(w.alloc (.cells #[.int .i64 W,.int .i64 H,.int .i64 F,.slice ac nc kc,.slice aw nw kw] 25)).alloc (.cells #[.int .i64 e,.int .i64 n,.slice ao os.length ko,.slice af fs.length kf] 30)=w1:=⟨_,rfl⟩;have⟨⟨x0,x1,x2,x3,x4⟩,⟨z0,z1,z2,z3⟩,hz1,hF⟩:=ahG hw1;rw[hw1];clear hw1;have hz2:w.heap.size<w1.heap.size:=by omega
 have hz3:w.heap.size+1<w1.heap.size:=by omega
 go_wp2_with (go_at_call 85;refine(Tryz.rOn _ _ _ _ _ _ _ _ _ _ _ _ hW hW2 hH hH2).mono ?_;rintro e w2 ⟨rfl,hF2⟩;have⟨d1,d2⟩:=bD hF2)
 .have p1:(!ZP W H e n)=true:=by assumption
  go_ret;exact⟨dZ (by unfold xQ;simp at p1;simp[p1]),hF.trans hF2⟩
 .have p1:(!ZP W H e n)=false:=by assumption
  have p2:((os.length:Int)!=(nc))=true:=by assumption
  go_ret;exact⟨dZ (by unfold xQ;simp at p1 p2;simp[p1];intro h;exact absurd (by exact_mod_cast h) p2),hF.trans hF2⟩
 have q0:xQ W H nc nw e n os fs=(if os.all TD then Uu nw fs else 1):=by
  have p1:(!ZP W H e n)=false:=by assumption
  have p2:((os.length:Int)!=(nc))=false:=by assumption
  unfold xQ;simp at p1 p2;simp[p1];intro h;exact absurd (by exact_mod_cast p2) h
 have HQ:=az q0;clear q0;clear d1 d2;have p1:(!ZP W H e n)=false:=by assumption
 have p2:((os.length:Int)!=(nc))=false:=by assumption
 try rw[p1]
 try rw[p2]
 clear p1 p2;go_loopw [5] (fun i wr=>∃k,k<=os.length/\i=.int .i64 k/\Fin w1 wr/\(os.take k).all TD=true) (fun i _=>os.length-(intOf i).toNat);case atStart=>exact⟨0,gy _,rfl,hF2,rfl⟩
 case round=>
  clear hF2;obtain⟨k,hk,rfl,hF1,hp⟩:=hrel;have y0:=((bD hF1).1 _ 0 hz2).trans x0;have y1:=((bD hF1).1 _ 1 hz2).trans x1;have y2:=((bD hF1).1 _ 2 hz2).trans x2;have y3:=((bD hF1).1 _ 3 hz2).trans x3;have y4:=((bD hF1).1 _ 4 hz2).trans x4;have t0:=((bD hF1).1 _ 0 hz3).trans z0;have t1:=((bD hF1).1 _ 1 hz3).trans z1;have t2:=((bD hF1).1 _ 2 hz3).trans z2;have t3:=((bD hF1).1 _ 3 hz3).trans z3;clear x0 x1 x2 x3 x4 z0 z1 z2 z3;by_cases hlt:k<os.length
  .obtain⟨b,o,rfl,hb,e0⟩:=HO.out.fin (hF.trans hF1) k hlt;have HP:=az hp;have HS:=az (Gj hlt);clear hp
   go_wp2_with (go_at_call 24;refine(Tryz.oG _ _ _ _).mono ?_;rintro e w' ⟨rfl,rfl⟩)
   .have p1:(!TD os[k])=true:=by assumption
    go_ret;exact⟨dZ (by rw[HQ.out,Pz hlt (by simpa using p1)];rfl),hF.trans hF1⟩
   have p1:(!TD os[k])=false:=by assumption
   go_roundw;case rel=>exact⟨k+1,by omega,by go_num,hF1,by rw[HS.out,Gx,HP.out];simpa using p1⟩
   case measure=>simp[intOf];omega
  have hk':k=os.length:=by omega
  subst hk';rw[Bz] at hp;have hq2:=HQ.out;rw[hp,aY rfl] at hq2;have HQ2:=az hq2;clear hp hq2 HQ;have HF1:=HF.out.fin (hF.trans hF1);have HF2:=az HF1;clear HF1;go_wp2_with (go_at_call 86;refine(Tryz.afX _ _ _ _ _ (by omega) (by omega) hmf HF2.out).mono ?_;rintro e w3 ⟨rfl,hF3⟩);go_ret;exact⟨dZ HQ2.out.symm,(hF.trans hF1).trans hF3⟩
def Tryz.RN(W H F e n)(ac aw ao af)(nc kc nw kw ko kf)(os fs)(w)(hW:2<=W)(hW2:W<=7)(hH:2<=H)(hH2:H<=7)(hnc:nc<=3)(hnw:nw<=5)(hmo:os.length<=9223372036854775807)(hmf:fs.length<=9223372036854775807)(ho:ED w ao os)(hf:ED w af fs):Calls Tryz.prog 44 #[.agg #[.int .i64 W,.int .i64 H,.int .i64 F,.slice ac nc kc,.slice aw nw kw],.agg #[.int .i64 e,.int .i64 n,.slice ao os.length ko,.slice af fs.length kf]] w fun x w'=>x=.returned (.int .i64 (xQ W H nc nw e n os fs))/\Fin w w':=by
 have HO:=az ho;have HF:=az hf;clear ho hf;go_enter Tryz.func44,Tryz.ntmps44;go_wp2_with fail;obtain⟨w1,hw1⟩:∃w1,(w.alloc (.cells #[.int .i64 W,.int .i64 H,.int .i64 F,.slice ac nc kc,.slice aw nw kw] 78)).alloc (.cells #[.int .i64 e,.int .i64 n,.slice ao os.length ko,.slice af fs.length kf] 30)=w1:=⟨_,rfl⟩;have⟨⟨x0,x1,x2,x3,x4⟩,⟨z0,z1,z2,z3⟩,hz1,hF⟩:=ahG hw1;rw[hw1];clear hw1;have hz2:w.heap.size<w1.heap.size:=by omega
 have hz3:w.heap.size+1<w1.heap.size:=by omega
 go_wp2_with (go_at_call 68;refine(Tryz.akh _ _ _ _ _ _ _ _ _ _ _ _ hW hW2 hH hH2).mono ?_;rintro e w2 ⟨rfl,hF2⟩;have⟨d1,d2⟩:=bD hF2)
 .have p1:(!ZP W H e n)=true:=by assumption
  go_ret;exact⟨dZ (by unfold xQ;simp at p1;simp[p1]),hF.trans hF2⟩
 .have p1:(!ZP W H e n)=false:=by assumption
  have p2:((os.length:Int)!=(nc))=true:=by assumption
  go_ret;exact⟨dZ (by unfold xQ;simp at p1 p2;simp[p1];intro h;exact absurd (by exact_mod_cast h) p2),hF.trans hF2⟩
 have q0:xQ W H nc nw e n os fs=(if os.all TD then Uu nw fs else 1):=by
  have p1:(!ZP W H e n)=false:=by assumption
  have p2:((os.length:Int)!=(nc))=false:=by assumption
  unfold xQ;simp at p1 p2;simp[p1];intro h;exact absurd (by exact_mod_cast p2) h
 have HQ:=az q0;clear q0;clear d1 d2;have p1:(!ZP W H e n)=false:=by assumption
 have p2:((os.length:Int)!=(nc))=false:=by assumption
 try rw[p1]
 try rw[p2]
 clear p1 p2;go_loopw [23] (fun i wr=>∃k,k<=os.length/\i=.int .i64 k/\Fin w1 wr/\(os.take k).all TD=true) (fun i _=>os.length-(intOf i).toNat);case atStart=>exact⟨0,gy _,rfl,hF2,rfl⟩
 case round=>
  clear hF2;obtain⟨k,hk,rfl,hF1,hp⟩:=hrel;have y0:=((bD hF1).1 _ 0 hz2).trans x0;have y1:=((bD hF1).1 _ 1 hz2).trans x1;have y2:=((bD hF1).1 _ 2 hz2).trans x2;have y3:=((bD hF1).1 _ 3 hz2).trans x3;have y4:=((bD hF1).1 _ 4 hz2).trans x4;have t0:=((bD hF1).1 _ 0 hz3).trans z0;have t1:=((bD hF1).1 _ 1 hz3).trans z1;have t2:=((bD hF1).1 _ 2 hz3).trans z2;have t3:=((bD hF1).1 _ 3 hz3).trans z3;clear x0 x1 x2 x3 x4 z0 z1 z2 z3;by_cases hlt:k<os.length
  .obtain⟨b,o,rfl,hb,e0⟩:=HO.out.fin (hF.trans hF1) k hlt;have HP:=az hp;have HS:=az (Gj hlt);clear hp
   go_wp2_with (go_at_call 76;refine(Tryz.within' _ _ _ _).mono ?_;rintro e w' ⟨rfl,rfl⟩)
   .have p1:(!TD os[k])=true:=by assumption
    go_ret;exact⟨dZ (by rw[HQ.out,Pz hlt (by simpa using p1)];rfl),hF.trans hF1⟩
   have p1:(!TD os[k])=false:=by assumption
   go_roundw;case rel=>exact⟨k+1,by omega,by go_num,hF1,by rw[HS.out,Gx,HP.out];simpa using p1⟩
   case measure=>simp[intOf];omega
  have hk':k=os.length:=by omega
  subst hk';rw[Bz] at hp;have hq2:=HQ.out;rw[hp,aY rfl] at hq2;have HQ2:=az hq2;clear hp hq2 HQ;have HF1:=HF.out.fin (hF.trans hF1);have HF2:=az HF1;clear HF1;go_wp2_with (go_at_call 81;refine(Tryz.aeA _ _ _ _ _ (by omega) (by omega) hmf HF2.out).mono ?_;rintro e w3 ⟨rfl,hF3⟩);go_ret;exact⟨dZ HQ2.out.symm,(hF.trans hF1).trans hF3⟩
def orB(g:Int)(i:Nat):Int:=bits BinOp.or IntKind.u8 g (2 ^ i % 256)
def Tryz.Zp(g)(i:Nat)(hi2:i<=4)(w:ay):Calls Tryz.prog 84 #[.int .u8 g,.int .i64 i] w fun e w'=>e=.returned (.int .u8 (orB g i))/\w'=w:=by go_enter Tryz.func84,Tryz.ntmps84;go_wp2;go_ret;exact⟨rfl,rfl⟩
def grp(p:Nat->Bool):Nat->Int
|0=>0
|k+1=>if p k then orB (grp p k) k else grp p k
def kU(ws:List IZ)(k:Nat):Bool:=match ws[k]? with
|some x=>x.s
|none=>false
def Tryz.ajy(W H F)(ac aw)(nc kc kw)(ws)(w)(hm:ws.length<=5)(hc:LM w aw ws):Calls Tryz.prog 119 #[.agg #[.int .i64 W,.int .i64 H,.int .i64 F,.slice ac nc kc,.slice aw ws.length kw]] w fun e w'=>e=.returned (.int .u8 (grp (kU ws) ws.length))/\Fin w w':=by
 have HC:=az hc;clear hc;go_enter Tryz.func119,Tryz.ntmps119;go_wp2;obtain⟨w1,hw1⟩:∃w1,w.alloc (.cells #[.int .i64 W,.int .i64 H,.int .i64 F,.slice ac nc kc,.slice aw ws.length kw] 78)=w1:=⟨_,rfl⟩;have hF:=hw1▸(Fin.refl _).alloc _ _;rw[hw1];clear hw1;go_loopw [3,10] (fun g i wr=>∃k,k<=ws.length/\i=.int .i64 k/\Fin w1 wr/\g=.int .u8 (grp (kU ws) k)) (fun _ i _=>ws.length-(intOf i).toNat);case atStart=>exact⟨0,gy _,rfl,Fin.refl _,rfl⟩
 case round=>
  obtain⟨k,hk,rfl,hF1,rfl⟩:=hrel;by_cases hlt:k<ws.length
  .obtain⟨b,o,rfl,hb,e0,e1,e2,e3,e4⟩:=HC.out.fin (hF.trans hF1) k hlt;have hs:kU ws k=ws[k].s:=by unfold kU;simp[hlt]
   generalize hx:ws[k]=x at e0 e1 e2 e3 e4 hs;have⟨xe,xn,xb,xc,xs⟩:=x;have HS:=az hs;clear hx hs;dsimp only at e0 e1 e2 e3 e4;go_wp2_with (go_at_call 84;refine(Tryz.Zp _ _ (by omega) _).mono ?_;rintro e w' ⟨rfl,rfl⟩)
   .have p1:xs=true:=by assumption
    go_roundw;case rel=>exact⟨k+1,by omega,by go_num,hF1.trans ((Fin.refl _).alloc _ _),by have:=HS.out;simp only[grp,this,p1,je]⟩
    case measure=>simp[intOf];omega
   have p1:xs=false:=by assumption
   go_roundw;case rel=>exact⟨k+1,by omega,by go_num,hF1.trans ((Fin.refl _).alloc _ _),by have:=HS.out;simp[grp,this,p1]⟩
   case measure=>simp[intOf];omega
  have hk':k=ws.length:=by omega
  subst hk';go_wp2;go_ret;exact⟨rfl,hF.trans hF1⟩
end Go.Proofs
